"""Calls on captions, all in one list of whole numbers, and their answers."""

from undertexts.questions import at, count, fast, get, next_time, text
from undertexts.steps import add, apart, drop, join, move, read, shift, split, stretch, wrap

READ = 0
TEXT = 1
GET = 2
ADD = 3
DROP = 4
MOVE = 5
SHIFT = 6
STRETCH = 7
AT = 8
WRAP = 9
SPLIT = 10
JOIN = 11
APART = 12
FAST = 13
NEXT = 14
COUNT = 15


class NoSuchCall(ValueError):
    pass


# Slices are copies, so the captions never share a line with what is handed in.
def parted(calls):
    found = []
    place = 0
    while place < len(calls):
        call = calls[place]
        behind = place + 2 + calls[place + 1]
        numbers = calls[place + 2:behind]
        lists = []
        place = behind + 1
        for k in range(calls[behind]):
            end = place + 1 + calls[place]
            lists.append(calls[place + 1:end])
            place = end
        found.append((call, numbers, lists))
    return found


def asked(captions, call, numbers):
    if call == TEXT:
        return text(captions)
    if call == GET:
        return get(captions, numbers[0])
    if call == AT:
        return at(captions, numbers[0])
    if call == FAST:
        return fast(captions, numbers[0])
    if call == NEXT:
        return next_time(captions, numbers[0])
    if call == COUNT:
        return count(captions)
    raise NoSuchCall(call)


def carried_out(captions, call, numbers, lists):
    if call == READ:
        return read(captions, lists[0])
    if call == ADD:
        return add(captions, numbers[0], numbers[1], lists)
    if call == DROP:
        return drop(captions, numbers[0])
    if call == MOVE:
        return move(captions, numbers[0], numbers[1])
    if call == SHIFT:
        return shift(captions, numbers[0])
    if call == STRETCH:
        return stretch(captions, numbers[0], numbers[1])
    if call == WRAP:
        return wrap(captions, numbers[0], numbers[1])
    if call == SPLIT:
        return split(captions, numbers[0], numbers[1], numbers[2])
    if call == JOIN:
        return join(captions, numbers[0])
    if call == APART:
        return apart(captions, numbers[0])
    return (captions, asked(captions, call, numbers))


def answers(calls):
    captions = []
    answered = []
    for call in parted(calls):
        outcome = carried_out(captions, call[0], call[1], call[2])
        captions = outcome[0]
        answered.append(len(outcome[1]))
        answered.extend(outcome[1])
    return answered

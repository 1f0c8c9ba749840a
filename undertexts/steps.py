"""The calls that change captions, each a step to the captions then and an answer.

The captions that a step is given stay as they are, so a refusal gives them
back.
"""

from undertexts.answering import AT_FAULT, NO_ROOM, NO_SUCH_CAPTION, NOT_ALLOWED, NOT_POSSIBLE, with_length
from undertexts.form import MOST_CAPTIONS, MOST_LINES, MOST_SIGNS, TIMES_END
from undertexts.form import Caption, are_lines, are_times
from undertexts.reading import Fault, read_captions
from undertexts.wrapping import wrapped

MOST_BYTES = 16384
MOST_STRETCH = 1000


def moved(caption, d):
    return Caption(caption.start + d, caption.stop + d, caption.lines)


def stretched(caption, p, q):
    return Caption(caption.start * p // q, caption.stop * p // q, caption.lines)


def put_in(captions, caption):
    place = 0
    while place < len(captions) and captions[place].start <= caption.start:
        place = place + 1
    return (captions[:place] + [caption] + captions[place:], [place])


def in_place(captions, i, caption):
    return captions[:i] + [caption] + captions[i + 1:]


# Asks all the captions before any takes the place of what was.
def take_times(captions, changed, number):
    if not all([are_times(caption.start, caption.stop) for caption in changed]):
        return (captions, [NOT_POSSIBLE])
    return (changed, [number])


def read(captions, data):
    if len(data) > MOST_BYTES:
        return (captions, [NOT_ALLOWED])
    try:
        found = read_captions(data)
    except Fault as fault:
        return (captions, [AT_FAULT] + with_length([fault.kind, fault.place]))
    return (found, [len(found)])


def add(captions, start, stop, lines):
    if not are_times(start, stop) or not are_lines(lines):
        return (captions, [NOT_ALLOWED])
    if len(captions) == MOST_CAPTIONS:
        return (captions, [NO_ROOM])
    return put_in(captions, Caption(start, stop, lines))


def drop(captions, i):
    if i >= len(captions):
        return (captions, [NO_SUCH_CAPTION])
    return (captions[:i] + captions[i + 1:], [0])


def move(captions, i, d):
    if i >= len(captions):
        return (captions, [NO_SUCH_CAPTION])
    caption = moved(captions[i], d)
    if not are_times(caption.start, caption.stop):
        return (captions, [NOT_POSSIBLE])
    return put_in(captions[:i] + captions[i + 1:], caption)


def shift(captions, d):
    return take_times(captions, [moved(caption, d) for caption in captions], 0)


def stretch(captions, p, q):
    if p < 1 or p > MOST_STRETCH or q < 1 or q > MOST_STRETCH:
        return (captions, [NOT_ALLOWED])
    return take_times(captions, [stretched(caption, p, q) for caption in captions], 0)


def wrap(captions, i, w):
    if w < 1 or w > MOST_SIGNS:
        return (captions, [NOT_ALLOWED])
    if i >= len(captions):
        return (captions, [NO_SUCH_CAPTION])
    caption = captions[i]
    lines = wrapped(caption.lines, w)
    if len(lines) == 0:
        return (captions, [NOT_POSSIBLE])
    if len(lines) > MOST_LINES:
        return (captions, [NO_ROOM])
    return (in_place(captions, i, Caption(caption.start, caption.stop, lines)), [len(lines)])


def can_be_split(caption, t, j):
    return caption.start < t and t < caption.stop and 0 < j and j < len(caption.lines)


def split(captions, i, t, j):
    if i >= len(captions):
        return (captions, [NO_SUCH_CAPTION])
    caption = captions[i]
    if not can_be_split(caption, t, j):
        return (captions, [NOT_POSSIBLE])
    if len(captions) == MOST_CAPTIONS:
        return (captions, [NO_ROOM])
    first = Caption(caption.start, t, caption.lines[:j])
    second = Caption(t, caption.stop, caption.lines[j:])
    return put_in(in_place(captions, i, first), second)


def join(captions, i):
    if i + 1 >= len(captions):
        return (captions, [NO_SUCH_CAPTION])
    first = captions[i]
    second = captions[i + 1]
    lines = first.lines + second.lines
    if len(lines) > MOST_LINES:
        return (captions, [NO_ROOM])
    both = Caption(first.start, max(first.stop, second.stop), lines)
    return (captions[:i] + [both] + captions[i + 2:], [0])


def apart(captions, g):
    if g >= TIMES_END:
        return (captions, [NOT_ALLOWED])
    changed = list(captions)
    number = 0
    for i in range(len(captions) - 1):
        caption = captions[i]
        latest = captions[i + 1].start - g
        if caption.stop > latest:
            changed[i] = Caption(caption.start, latest, caption.lines)
            number = number + 1
    return take_times(captions, changed, number)

"""The calls, each a step from captions to the captions then and an answer.

The captions that a step is given stay as they are, so a refusal gives them
back.
"""

from undertexts.form import MOST_CAPTIONS, Caption, are_lines, are_times
from undertexts.reading import Fault, read_captions
from undertexts.writing import write_captions

NOT_ALLOWED = -1
AT_FAULT = -2
OUT_OF_TIME = -3
NO_SUCH_CAPTION = -4
NO_ROOM = -6

MOST_BYTES = 16384
MOST_STRETCH = 1000


def with_length(row):
    return [len(row)] + row


def moved(caption, d):
    return Caption(caption.start + d, caption.stop + d, caption.lines)


def stretched(caption, p, q):
    return Caption(caption.start * p // q, caption.stop * p // q, caption.lines)


def put_in(captions, caption):
    place = 0
    while place < len(captions) and captions[place].start <= caption.start:
        place = place + 1
    return (captions[:place] + [caption] + captions[place:], [place])


# Asks all the captions before any takes the place of what was.
def take_times(captions, changed):
    if not all([are_times(caption.start, caption.stop) for caption in changed]):
        return (captions, [OUT_OF_TIME])
    return (changed, [0])


def read(captions, data):
    if len(data) > MOST_BYTES:
        return (captions, [NOT_ALLOWED])
    try:
        found = read_captions(data)
    except Fault as fault:
        return (captions, [AT_FAULT] + with_length([fault.kind, fault.place]))
    return (found, [len(found)])


def text(captions):
    return (captions, [len(captions)] + with_length(write_captions(captions)))


def get(captions, i):
    if i >= len(captions):
        return (captions, [NO_SUCH_CAPTION])
    caption = captions[i]
    answer = [len(caption.lines)] + with_length([caption.start, caption.stop])
    for line in caption.lines:
        answer.extend(with_length(line))
    return (captions, answer)


def add(captions, start, stop, lines):
    if not are_times(start, stop) or not are_lines(lines):
        return (captions, [NOT_ALLOWED])
    if len(captions) == MOST_CAPTIONS:
        return (captions, [NO_ROOM])
    return put_in(captions, Caption(start, stop, lines))


def drop(captions, i):
    if i >= len(captions):
        return (captions, [NO_SUCH_CAPTION])
    return (captions[:i] + captions[i + 1:], [0])


def move(captions, i, d):
    if i >= len(captions):
        return (captions, [NO_SUCH_CAPTION])
    caption = moved(captions[i], d)
    if not are_times(caption.start, caption.stop):
        return (captions, [OUT_OF_TIME])
    return put_in(captions[:i] + captions[i + 1:], caption)


def shift(captions, d):
    return take_times(captions, [moved(caption, d) for caption in captions])


def stretch(captions, p, q):
    if p < 1 or p > MOST_STRETCH or q < 1 or q > MOST_STRETCH:
        return (captions, [NOT_ALLOWED])
    return take_times(captions, [stretched(caption, p, q) for caption in captions])

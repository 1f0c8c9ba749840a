"""Bytes read as the text of captions, up to the first fault in them."""

from undertexts.form import COLON, DASH, LINE_END, NINE, POINT, ZERO
from undertexts.form import MOST_CAPTIONS, MOST_LINES, MOST_SIGNS
from undertexts.form import Caption, is_sign

WRONG_BYTE = 1
ABOVE_59 = 2
NOT_LATER = 3
OUT_OF_ORDER = 4
TOO_MANY = 5

# A time has always as many bytes, so where the parts of a line of times stand
# is known from where the line begins.
TIME_LENGTH = 12
STOP_PLACE = 13
TIMES_LENGTH = 26


class Fault(ValueError):
    def __init__(self, kind, place):
        self.kind = kind
        self.place = place


def byte_at(data, place):
    if place == len(data):
        raise Fault(WRONG_BYTE, place)
    return data[place]


def pass_byte(data, place, wanted):
    if byte_at(data, place) != wanted:
        raise Fault(WRONG_BYTE, place)


def digit_at(data, place):
    byte = byte_at(data, place)
    if byte < ZERO or byte > NINE:
        raise Fault(WRONG_BYTE, place)
    return byte - ZERO


def sign_at(data, place):
    byte = byte_at(data, place)
    if not is_sign(byte):
        raise Fault(WRONG_BYTE, place)
    return byte


def read_number(data, place, width):
    number = 0
    for k in range(width):
        number = number * 10 + digit_at(data, place + k)
    return number


def read_sixtieths(data, place):
    number = read_number(data, place, 2)
    if number > 59:
        raise Fault(ABOVE_59, place)
    return number


def read_time(data, place):
    hours = read_number(data, place, 2)
    pass_byte(data, place + 2, COLON)
    minutes = read_sixtieths(data, place + 3)
    pass_byte(data, place + 5, COLON)
    seconds = read_sixtieths(data, place + 6)
    pass_byte(data, place + 8, POINT)
    thousandths = read_number(data, place + 9, 3)
    return ((hours * 60 + minutes) * 60 + seconds) * 1000 + thousandths


def read_line(data, place):
    line = []
    while byte_at(data, place + len(line)) != LINE_END:
        sign = sign_at(data, place + len(line))
        if len(line) == MOST_SIGNS:
            raise Fault(TOO_MANY, place + len(line))
        line.append(sign)
    return line


def read_lines(data, place):
    lines = []
    # The first line is asked for before any line's end: it may not be empty.
    while len(lines) == 0 or byte_at(data, place) != LINE_END:
        # A byte that is no sign begins no line, so it is no ninth one either.
        sign_at(data, place)
        if len(lines) == MOST_LINES:
            raise Fault(TOO_MANY, place)
        line = read_line(data, place)
        lines.append(line)
        place = place + len(line) + 1
    return lines


def read_caption(data, place, earliest):
    start = read_time(data, place)
    if start < earliest:
        raise Fault(OUT_OF_ORDER, place)
    pass_byte(data, place + TIME_LENGTH, DASH)
    stop = read_time(data, place + STOP_PLACE)
    if stop <= start:
        raise Fault(NOT_LATER, place + STOP_PLACE)
    pass_byte(data, place + TIMES_LENGTH - 1, LINE_END)
    return Caption(start, stop, read_lines(data, place + TIMES_LENGTH))


def read_length(caption):
    return TIMES_LENGTH + sum([len(line) + 1 for line in caption.lines]) + 1


def read_captions(data):
    captions = []
    earliest = 0
    place = 0
    while place < len(data):
        if len(captions) == MOST_CAPTIONS:
            raise Fault(TOO_MANY, place)
        caption = read_caption(data, place, earliest)
        captions.append(caption)
        earliest = caption.start
        place = place + read_length(caption)
    return captions

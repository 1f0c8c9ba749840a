"""What a caption is: its limits, and the bytes that its text is made of."""

MOST_CAPTIONS = 128
MOST_LINES = 8
MOST_SIGNS = 80
TIMES_END = 360000000

LINE_END = 10
BLANK = 32
FIRST_SIGN = 32
DASH = 45
POINT = 46
ZERO = 48
NINE = 57
COLON = 58
LAST_SIGN = 126


# Captions are never changed once they are made: a changed one is a new one,
# so a call that is refused half-way has nothing to take back.
class Caption:
    def __init__(self, start, stop, lines):
        self.start = start
        self.stop = stop
        self.lines = lines


def is_sign(byte):
    return FIRST_SIGN <= byte and byte <= LAST_SIGN


def is_line(line):
    if len(line) == 0 or len(line) > MOST_SIGNS:
        return False
    return all([is_sign(byte) for byte in line])


def are_lines(lines):
    if len(lines) == 0 or len(lines) > MOST_LINES:
        return False
    return all([is_line(line) for line in lines])


def are_times(start, stop):
    return 0 <= start and start < stop and stop < TIMES_END

"""What answers are made of: the numbers of refusals, and lists."""

NOT_ALLOWED = -1
AT_FAULT = -2
NOT_POSSIBLE = -3
NO_SUCH_CAPTION = -4
NONE_LATER = -5
NO_ROOM = -6


def with_length(row):
    return [len(row)] + row

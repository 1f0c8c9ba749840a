"""Calls written as lists, and answers parted again, for the tests."""

from undertexts.captions import answers

BIGGEST = 18446744073709551615
FARTHEST = 9223372036854775807
TIMES_END = 360000000


def read(data):
    return [0, 0, 1, len(data)] + list(data)


def text():
    return [1, 0, 0]


def get(i):
    return [2, 1, i, 0]


def add(start, stop, *lines):
    call = [3, 2, start, stop, len(lines)]
    for line in lines:
        call += [len(line)] + list(line)
    return call


def drop(i):
    return [4, 1, i, 0]


def move(i, d):
    return [5, 2, i, d, 0]


def shift(d):
    return [6, 1, d, 0]


def stretch(p, q):
    return [7, 2, p, q, 0]


def at(t):
    return [8, 1, t, 0]


def wrap(i, w):
    return [9, 2, i, w, 0]


def split(i, t, j):
    return [10, 3, i, t, j, 0]


def join(i):
    return [11, 1, i, 0]


def apart(g):
    return [12, 1, g, 0]


def fast(k):
    return [13, 1, k, 0]


def next_time(t):
    return [14, 1, t, 0]


def count():
    return [15, 0, 0]


def run(*calls):
    """The answer to each call, as a list."""
    handed = [number for call in calls for number in call]
    given = answers(handed)
    parted = []
    place = 0
    while place < len(given):
        end = place + 1 + given[place]
        parted.append(given[place + 1:end])
        assert len(parted[-1]) == given[place] >= 1, given
        place = end
    assert len(parted) == len(calls), given
    return parted


def last(*calls):
    return run(*calls)[-1]


def time(t):
    hours, rest = divmod(t, 3600000)
    minutes, rest = divmod(rest, 60000)
    return b"%02d:%02d:%02d.%03d" % (hours, minutes, *divmod(rest, 1000))


def caption(start, stop, *lines):
    """One caption's text."""
    times = time(start) + b"-" + time(stop)
    return b"".join(line + b"\n" for line in (times, *lines, b""))


def shown(*calls):
    """The text that stands after the calls."""
    answer = last(*calls, text())
    assert answer[1] == len(answer) - 2, answer
    return bytes(answer[2:])


def order(*calls):
    """The first line of each caption after the calls."""
    parts = shown(*calls).split(b"\n\n")
    return [part.split(b"\n")[1].decode() for part in parts if part]


def many(count, start=0):
    """So many captions, each a thousandth later than the one in front."""
    return b"".join(caption(start + k, start + k + 1, b"%d" % k) for k in range(count))

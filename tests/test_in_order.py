"""C5 and C1 over long rows of calls, against a plain list kept beside them."""

import unittest

from tests.helper import TIMES_END, add, caption, drop, last, move, read, run, shift, shown, stretch, text


class Beside:
    """The same calls on a list of (start, stop, line), by sorting."""

    def __init__(self):
        self.rows = []

    def add(self, start, stop, line):
        if not start < stop < TIMES_END:
            return -1
        if len(self.rows) == 128:
            return -6
        return self.put_in((start, stop, line))

    def put_in(self, row):
        # Sorting keeps equal ones as they stand, and the new one stands last.
        self.rows = sorted(self.rows + [row], key=lambda one: one[0])
        return max(k for k, one in enumerate(self.rows) if one is row)

    def drop(self, i):
        if i >= len(self.rows):
            return -4
        self.rows.pop(i)
        return 0

    def move(self, i, d):
        if i >= len(self.rows):
            return -4
        start, stop, line = self.rows[i]
        if start + d < 0 or stop + d >= TIMES_END:
            return -3
        self.rows.pop(i)
        return self.put_in((start + d, stop + d, line))

    def change(self, change):
        rows = [(change(start), change(stop), line) for start, stop, line in self.rows]
        if any(not 0 <= start < stop < TIMES_END for start, stop, line in rows):
            return -3
        self.rows = rows
        return 0

    def text(self):
        return b"".join(caption(start, stop, line) for start, stop, line in self.rows)


def numbers(seed):
    """A row of numbers that look mixed and are the same every time."""
    while True:
        seed = (seed * 6364136223846793005 + 1442695040888963407) % 2 ** 64
        yield seed >> 33


def next_call(beside, row, k):
    """A call, and what it is to answer by the list kept beside."""
    pick = next(row) % 16
    if pick < 7:
        start = next(row) % 40
        stop = start + next(row) % 30
        return add(start, stop, b"%d" % k), beside.add(start, stop, b"%d" % k)
    i = next(row) % (len(beside.rows) + 2)
    if pick < 9:
        return drop(i), beside.drop(i)
    d = next(row) % 60 - 30
    if pick < 13:
        return move(i, d), beside.move(i, d)
    if pick < 15:
        return shift(d), beside.change(lambda t: t + d)
    p, q = next(row) % 9 + 1, next(row) % 9 + 1
    return stretch(p, q), beside.change(lambda t: t * p // q)


class InOrder(unittest.TestCase):
    def test_long_rows_of_calls(self):
        for seed in range(60):
            beside, row = Beside(), numbers(seed)
            calls, wanted = [], []
            for k in range(120):
                call, number = next_call(beside, row, k)
                calls += [call, text()]
                told = beside.text()
                wanted += [[number], [len(beside.rows), len(told), *told]]
            with self.subTest(seed=seed):
                self.assertEqual(run(*calls), wanted)
                self.assertEqual(shown(read(beside.text())), beside.text())
                self.assertEqual(last(read(beside.text())), [len(beside.rows)])


if __name__ == "__main__":
    unittest.main()

"""C1 to C5 over long rows of calls, against a plain list kept beside them."""

import re
import unittest

from tests import helper
from tests.helper import BIGGEST, TIMES_END, caption, run, text
from undertexts.captions import answers

MOST = 128
MIXED = (["add"] * 8 + ["split"] * 4 + ["wrap", "move"] * 2 + ["read", "drop", "shift", "stretch", "join", "apart"]
         + ["at", "fast", "next_time", "count", "get", "text"])


class Beside:
    """The same calls on a list of (start, stop, lines), by other means; each gives its answer."""

    def __init__(self):
        self.rows = []

    def good(self, rows, answer):
        """Takes the rows if all are captions."""
        if any(not 0 <= start < stop < TIMES_END for start, stop, lines in rows):
            return [-3]
        self.rows = rows
        return answer

    def put_in(self, row):
        # Sorting keeps equal ones as they stand, and the new one stands last.
        self.rows = sorted(self.rows + [row], key=lambda one: one[0])
        return [max(k for k, one in enumerate(self.rows) if one is row)]

    def read(self, data):
        """Of a text, whole or cut off somewhere."""
        if data and data[-2:] != b"\n\n":
            return [-2, 2, 1, len(data)]
        self.rows = []
        for part in data.split(b"\n\n")[:-1]:
            times, *lines = part.split(b"\n")
            digits = [int(number) for number in re.findall(rb"\d+", times)]
            start, stop = (((h * 60 + m) * 60 + s) * 1000 + t for h, m, s, t in (digits[:4], digits[4:]))
            self.rows.append((start, stop, lines))
        return [len(self.rows)]

    def text(self):
        told = self.told()
        return [len(self.rows), len(told), *told]

    def told(self):
        return b"".join(caption(start, stop, *lines) for start, stop, lines in self.rows)

    def get(self, i):
        if i >= len(self.rows):
            return [-4]
        start, stop, lines = self.rows[i]
        return [len(lines), 2, start, stop, *(number for line in lines for number in (len(line), *line))]

    def add(self, start, stop, *lines):
        if not start < stop < TIMES_END or not 0 < len(lines) < 9:
            return [-1]
        return self.put_in((start, stop, list(lines))) if len(self.rows) < MOST else [-6]

    def drop(self, i):
        if i >= len(self.rows):
            return [-4]
        self.rows.pop(i)
        return [0]

    def move(self, i, d):
        if i >= len(self.rows):
            return [-4]
        start, stop, lines = self.rows[i]
        if start + d < 0 or stop + d >= TIMES_END:
            return [-3]
        self.rows.pop(i)
        return self.put_in((start + d, stop + d, lines))

    def shift(self, d):
        return self.good([(start + d, stop + d, lines) for start, stop, lines in self.rows], [0])

    def stretch(self, p, q):
        if p not in range(1, 1001) or q not in range(1, 1001):
            return [-1]
        return self.good([(start * p // q, stop * p // q, lines) for start, stop, lines in self.rows], [0])

    def at(self, t):
        which = [k for k, (start, stop, lines) in enumerate(self.rows) if t in range(start, stop)]
        return [len(which), len(which), *which]

    def wrap(self, i, w):
        if w not in range(1, 81):
            return [-1]
        if i >= len(self.rows):
            return [-4]
        start, stop, lines = self.rows[i]
        words, lines = re.findall(rb"[^ ]{1,%d}" % w, b" ".join(lines)), []
        while words:
            most = max(k for k in range(1, len(words) + 1) if len(b" ".join(words[:k])) <= w)
            lines.append(b" ".join(words[:most]))
            words = words[most:]
        if len(lines) in range(1, 9):
            self.rows[i] = (start, stop, lines)
            return [len(lines)]
        return [-6] if lines else [-3]

    def split(self, i, t, j):
        if i >= len(self.rows):
            return [-4]
        start, stop, lines = self.rows[i]
        if t not in range(start + 1, stop) or j not in range(1, len(lines)):
            return [-3]
        if len(self.rows) == MOST:
            return [-6]
        self.rows[i] = (start, t, lines[:j])
        return self.put_in((t, stop, lines[j:]))

    def join(self, i):
        if len(self.rows[i:i + 2]) < 2:
            return [-4]
        (start, stop, lines), (later, last, others) = self.rows[i:i + 2]
        if len(lines + others) > 8:
            return [-6]
        self.rows[i:i + 2] = [(start, max(stop, last), lines + others)]
        return [0]

    def apart(self, g):
        if g >= TIMES_END:
            return [-1]
        rows = [(start, min(stop, behind[0] - g), lines)
                for (start, stop, lines), behind in zip(self.rows, self.rows[1:])] + self.rows[-1:]
        return self.good(rows, [sum(one != other for one, other in zip(rows, self.rows))])

    def fast(self, k):
        which = [n for n, (start, stop, lines) in enumerate(self.rows)
                 if 1000 * len(b"".join(lines)) > k * (stop - start)]
        return [len(which), len(which), *which]

    def next_time(self, t):
        later = sorted(time for row in self.rows for time in row[:2] if time > t)
        return [0, 1, later[0]] if later else [-5]

    def count(self):
        return [len(self.rows), 1, max((stop for start, stop, lines in self.rows), default=0)]


def mixed(seed):
    """A row of numbers that look mixed and are the same every time."""
    while True:
        seed = (seed * 6364136223846793005 + 1442695040888963407) % 2 ** 64
        yield seed >> 33


class Maker:
    """Calls that look mixed, with what each is to answer by the list kept beside."""

    def __init__(self, seed):
        self.row = mixed(seed)
        self.beside = Beside()

    def below(self, most):
        return next(self.row) % most

    def number(self):
        """Mostly a caption's number, now and then one that is none's."""
        return self.below(len(self.beside.rows) + 2) if self.below(40) else BIGGEST

    def line(self):
        return b"".join((b" ", b"a", b"b")[self.below(3)] * (1 + self.below(5)) for k in range(1 + self.below(4)))

    def lines(self):
        return [self.line() for k in range(self.below(5) if self.below(12) else 9)]

    def given(self, name):
        """What a call of this name is given."""
        if name in ("text", "count"):
            return []
        if name in ("get", "drop", "join"):
            return [self.number()]
        if name == "read":
            return [self.beside.told()[:1 + self.below(24)]]
        if name == "add":
            start = self.below(60)
            return [start, start + self.below(40), *self.lines()]
        if name == "move":
            return [self.number(), self.below(60) - 30]
        if name == "wrap":
            return [self.number(), self.below(20)]
        if name == "split":
            return [self.number(), self.below(90), self.below(4)]
        if name == "stretch":
            return [self.below(9), self.below(9)]
        if name == "apart":
            return [self.below(4) if self.below(9) else TIMES_END]
        return {"shift": [self.below(60) - 20], "fast": [self.below(2000)]}.get(name, [self.below(120)])

    def call(self, name, *given):
        """The call as numbers, and its answer by the list kept beside."""
        return getattr(helper, name)(*given), getattr(self.beside, name)(*given)

    def mixed_call(self):
        name = MIXED[self.below(len(MIXED))]
        return self.call(name, *self.given(name))


class InOrder(unittest.TestCase):
    def test_long_rows_of_calls(self):
        for seed in range(80):
            maker, calls, wanted = Maker(seed), [], []
            for k in range(140):
                call, answer = maker.mixed_call()
                calls += [call, text()]
                wanted += [answer, maker.beside.text()]
            with self.subTest(seed=seed):
                self.assertEqual(run(*calls), wanted)

    def test_behind_each_change_they_are_captions_in_order(self):
        for seed in range(100, 115):
            maker, calls = Maker(seed), []
            for k in range(100):
                calls += [maker.mixed_call()[0], text()]
            for told in run(*calls)[1::2]:
                with self.subTest(seed=seed, told=bytes(told[2:])):
                    self.assertReadBack(told)

    def test_each_call_that_changes_captions(self):
        before = caption(10, 50, b"a b", b"c") + caption(20, 60, b"d") + caption(30, 40, b"e", b"f")
        for call in (helper.add(20, 30, b"x"), helper.drop(1), helper.move(0, 15), helper.shift(-10),
                     helper.stretch(1, 3), helper.wrap(0, 1), helper.split(0, 30, 1), helper.join(0),
                     helper.apart(3), helper.read(caption(1, 2, b"y"))):
            with self.subTest(call=call):
                answer, told = run(helper.read(before), call, text())[1:]
                self.assertGreaterEqual(answer[0], 0)
                self.assertNotEqual(bytes(told[2:]), before)
                self.assertReadBack(told)

    def assertReadBack(self, told):
        self.assertEqual(run(helper.read(told[2:]), text()), [[told[0]], told])


class AllInOneList(unittest.TestCase):
    def pairs(self, seed):
        """300 calls of 16000 numbers with their answers, all sixteen among them, refusals too."""
        maker = Maker(seed)
        data = b"".join(caption(2 * k, 2 * k + 30, b"%d" % k, b"ab  cde " * 4, b" x " * 9) for k in range(122))
        pairs = [maker.call("count"), maker.call("read", data)]
        while len(pairs) < 298:
            pairs.append(maker.mixed_call())
        left = 16000 - sum(len(call) for call, answer in pairs) - len(helper.read(b"")) - len(text())
        return pairs + [maker.call("read", data[:left]), maker.call("text")]

    def test_300_calls_and_16000_numbers(self):
        for seed in range(12):
            calls, wanted = zip(*self.pairs(seed))
            handed = [number for call in calls for number in call]
            kept = list(handed)
            with self.subTest(seed=seed):
                self.assertEqual({call[0] for call in calls}, set(range(16)))
                self.assertEqual((len(calls), len(handed)), (300, 16000))
                first = answers(handed)
                self.assertEqual(first, [number for answer in wanted for number in (len(answer), *answer)])
                self.assertEqual(handed, kept)
                self.assertEqual(answers(handed), first)
                self.assertEqual(answers(helper.count()), [3, 0, 1, 0])

    def test_every_refusal_is_among_them(self):
        wanted = [answer for seed in range(12) for call, answer in self.pairs(seed)]
        self.assertEqual({answer[0] for answer in wanted if answer[0] < 0}, {-1, -2, -3, -4, -5, -6})


if __name__ == "__main__":
    unittest.main()

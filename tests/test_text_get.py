"""C1: the text of the captions, and one caption by its number."""

import unittest

from tests.helper import BIGGEST, add, caption, drop, get, last, read, run, shown, text


class Text(unittest.TestCase):
    def test_of_none(self):
        self.assertEqual(run(text()), [[0, 0]])
        self.assertEqual(run(add(1, 2, b"a"), drop(0), text())[-1], [0, 0])

    def test_how_many_the_length_and_the_bytes(self):
        written = b"00:00:00.000-00:00:00.001\nab\n\n00:00:00.007-00:00:00.010\nc\nd\n\n"
        self.assertEqual(last(add(7, 10, b"c", b"d"), add(0, 1, b"ab"), text()), [2, len(written), *written])

    def test_the_digits_of_times(self):
        self.assertEqual(shown(add(0, 359999999, b"x")), b"00:00:00.000-99:59:59.999\nx\n\n")
        self.assertEqual(shown(add(999, 1000, b"x")), b"00:00:00.999-00:00:01.000\nx\n\n")
        self.assertEqual(shown(add(59999, 60000, b"x")), b"00:00:59.999-00:01:00.000\nx\n\n")
        self.assertEqual(shown(add(3599999, 3600000, b"x")), b"00:59:59.999-01:00:00.000\nx\n\n")
        self.assertEqual(shown(add(35999999, 36000000, b"x")), b"09:59:59.999-10:00:00.000\nx\n\n")
        self.assertEqual(shown(add(45296078, 359999998, b"x")), b"12:34:56.078-99:59:59.998\nx\n\n")

    def test_changes_nothing(self):
        told = run(add(3, 4, b"a"), text(), text())
        self.assertEqual(told[1], told[2])


class Get(unittest.TestCase):
    def test_the_times_and_each_line(self):
        self.assertEqual(last(add(10, 359999999, b"ab", b"c", b" " * 80), get(0)),
                         [3, 2, 10, 359999999, 2, *b"ab", 1, *b"c", 80, *b" " * 80])

    def test_of_several_by_number(self):
        data = caption(1, 5, b"a") + caption(1, 4, b"b") + caption(2, 3, b"c", b"d")
        self.assertEqual(run(read(data), get(0), get(1), get(2))[1:], [
            [1, 2, 1, 5, 1, *b"a"],
            [1, 2, 1, 4, 1, *b"b"],
            [2, 2, 2, 3, 1, *b"c", 1, *b"d"],
        ])

    def test_no_such_caption(self):
        self.assertEqual(run(get(0), get(BIGGEST)), [[-4], [-4]])
        self.assertEqual(run(add(1, 2, b"a"), get(1), get(BIGGEST)), [[0], [-4], [-4]])


if __name__ == "__main__":
    unittest.main()

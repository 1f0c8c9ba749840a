"""C3: at a time just those stand that have begun and not ended."""

import unittest

from tests.helper import BIGGEST, add, at, caption, last, many, read, run, shown

ONE = read(caption(10, 20, b"a"))
FIVE = read(caption(0, 100, b"a") + caption(10, 20, b"b") + caption(10, 90, b"c") + caption(30, 40, b"d")
            + caption(30, 80, b"e"))
ENDS = read(caption(0, 1, b"a") + caption(359999998, 359999999, b"b"))


class At(unittest.TestCase):
    def assertStand(self, before, t, which):
        with self.subTest(t=t):
            self.assertEqual(last(before, at(t)), [len(which), len(which), *which])

    def test_no_captions(self):
        self.assertEqual(run(at(0), at(5), at(BIGGEST)), [[0, 0], [0, 0], [0, 0]])

    def test_it_stands_at_its_from(self):
        self.assertStand(ONE, 10, [0])
        self.assertStand(ENDS, 0, [0])
        self.assertStand(ENDS, 359999998, [1])

    def test_not_before_its_from(self):
        self.assertStand(ONE, 9, [])
        self.assertStand(ONE, 0, [])
        self.assertStand(ENDS, 359999997, [])

    def test_not_at_its_to(self):
        self.assertStand(ONE, 20, [])
        self.assertStand(ONE, 21, [])
        self.assertStand(ENDS, 1, [])
        self.assertStand(ENDS, 359999999, [])

    def test_it_stands_before_its_to(self):
        self.assertStand(ONE, 19, [0])
        self.assertStand(ONE, 15, [0])

    def test_the_biggest_time(self):
        self.assertStand(ONE, BIGGEST, [])
        self.assertStand(FIVE, BIGGEST, [])
        self.assertStand(ENDS, BIGGEST, [])

    def test_several_with_others_between_them(self):
        self.assertStand(FIVE, 9, [0])
        self.assertStand(FIVE, 10, [0, 1, 2])
        self.assertStand(FIVE, 25, [0, 2])
        self.assertStand(FIVE, 30, [0, 2, 3, 4])
        self.assertStand(FIVE, 40, [0, 2, 4])
        self.assertStand(FIVE, 85, [0, 2])
        self.assertStand(FIVE, 95, [0])

    def test_one_that_ends_where_another_begins(self):
        self.assertStand(read(caption(1, 5, b"a") + caption(5, 9, b"b")), 5, [1])
        self.assertStand(read(caption(1, 5, b"a") + caption(5, 9, b"b")), 4, [0])

    def test_how_many_then_the_list_behind_its_length(self):
        self.assertEqual(last(FIVE, at(25)), [2, 2, 0, 2])

    def test_all_128(self):
        calls = [add(k, 1000, b"x") for k in range(128)]
        self.assertEqual(last(*calls, at(999)), [128, 128, *range(128)])
        self.assertStand(read(many(128)), 77, [77])

    def test_every_time_by_the_words(self):
        times = [(0, 100), (10, 20), (10, 90), (30, 40), (30, 80)]
        for t in range(103):
            self.assertStand(FIVE, t, [k for k, (start, stop) in enumerate(times) if t in range(start, stop)])

    def test_changes_nothing(self):
        self.assertEqual(shown(FIVE, at(30)), shown(FIVE))


if __name__ == "__main__":
    unittest.main()

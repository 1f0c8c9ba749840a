"""Those that have more than so many signs a second."""

import unittest

from tests.helper import BIGGEST, caption, fast, last, read, run, shown

# 10, 20, 5 and 20 signs a second.
FOUR = read(caption(0, 1000, b"x" * 10) + caption(5, 505, b"x" * 10) + caption(6, 2006, b"x" * 10)
            + caption(7, 1007, *[b"x" * 5] * 4))


class Fast(unittest.TestCase):
    def assertFast(self, before, k, which):
        with self.subTest(k=k):
            self.assertEqual(last(before, fast(k)), [len(which), len(which), *which])

    def test_more_just_so_many_and_less(self):
        self.assertFast(FOUR, 4, [0, 1, 2, 3])
        self.assertFast(FOUR, 5, [0, 1, 3])
        self.assertFast(FOUR, 9, [0, 1, 3])
        self.assertFast(FOUR, 10, [1, 3])
        self.assertFast(FOUR, 11, [1, 3])
        self.assertFast(FOUR, 19, [1, 3])
        self.assertFast(FOUR, 20, [])
        self.assertFast(FOUR, 21, [])

    def test_a_little_more_than_a_whole_number(self):
        self.assertFast(read(caption(0, 999, b"x" * 10)), 10, [0])
        self.assertFast(read(caption(0, 1001, b"x" * 10)), 10, [])
        self.assertFast(read(caption(0, 1001, b"x" * 10)), 9, [0])
        self.assertFast(read(caption(0, 359999999, b"x" * 80)), 0, [0])

    def test_blanks_count(self):
        self.assertFast(read(caption(0, 1000, b" a  b ")), 5, [0])
        self.assertFast(read(caption(0, 1000, b" a  b ")), 6, [])
        self.assertFast(read(caption(0, 1000, b"      ")), 5, [0])

    def test_all_lines_count_and_nothing_between_them(self):
        self.assertFast(read(caption(0, 1000, b"ab", b"cde", b"f")), 5, [0])
        self.assertFast(read(caption(0, 1000, b"ab", b"cde", b"f")), 6, [])
        self.assertFast(read(caption(0, 1000, *[b"x" * 80] * 8)), 639, [0])
        self.assertFast(read(caption(0, 1000, *[b"x" * 80] * 8)), 640, [])

    def test_how_long_it_stands_not_when(self):
        self.assertFast(read(caption(359998999, 359999999, b"x" * 5)), 4, [0])
        self.assertFast(read(caption(359998999, 359999999, b"x" * 5)), 5, [])

    def test_of_0(self):
        self.assertFast(FOUR, 0, [0, 1, 2, 3])

    def test_of_the_most_there_can_be(self):
        self.assertFast(FOUR, BIGGEST, [])
        most = read(caption(0, 1, *[b"x" * 80] * 8))
        self.assertFast(most, 639999, [0])
        self.assertFast(most, 640000, [])
        self.assertFast(most, BIGGEST, [])

    def test_no_captions(self):
        self.assertEqual(run(fast(0), fast(5), fast(BIGGEST)), [[0, 0], [0, 0], [0, 0]])

    def test_how_many_then_the_list_behind_its_length(self):
        self.assertEqual(last(FOUR, fast(15)), [2, 2, 1, 3])

    def test_changes_nothing(self):
        self.assertEqual(shown(FOUR, fast(1)), shown(FOUR))


if __name__ == "__main__":
    unittest.main()

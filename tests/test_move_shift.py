"""C5: moved and shifted, in order and as it was."""

import unittest

from tests.helper import BIGGEST, FARTHEST, TIMES_END, add, caption, get, last, move, order, read, run, shift, shown, text

FOUR = read(caption(10, 15, b"a") + caption(20, 29, b"b") + caption(20, 22, b"c") + caption(30, 99, b"d"))
ENDS = read(caption(0, 100, b"a") + caption(50, 359999999, b"b"))


class Move(unittest.TestCase):
    def assertMoved(self, i, d, number, names):
        with self.subTest(i=i, d=d):
            self.assertEqual(last(FOUR, move(i, d)), [number])
            self.assertEqual("".join(order(FOUR, move(i, d))), names)

    def test_without_passing_another(self):
        self.assertMoved(0, 9, 0, "abcd")
        self.assertMoved(3, -9, 3, "abcd")
        self.assertMoved(0, -10, 0, "abcd")

    def test_forwards_past_others(self):
        self.assertMoved(0, 11, 2, "bcad")
        self.assertMoved(0, 21, 3, "bcda")
        self.assertMoved(1, 5, 2, "acbd")
        self.assertMoved(1, 1000, 3, "acdb")

    def test_backwards_past_others(self):
        self.assertMoved(3, -11, 1, "adbc")
        self.assertMoved(3, -21, 0, "dabc")
        self.assertMoved(2, -1, 1, "acbd")

    def test_onto_an_equal_beginning(self):
        self.assertMoved(0, 10, 2, "bcad")
        self.assertMoved(0, 20, 3, "bcda")
        self.assertMoved(3, -10, 3, "abcd")
        self.assertMoved(3, -20, 1, "adbc")

    def test_by_0(self):
        self.assertMoved(0, 0, 0, "abcd")
        self.assertMoved(1, 0, 2, "acbd")
        self.assertMoved(2, 0, 2, "abcd")

    def test_both_its_times_and_its_lines(self):
        self.assertEqual(run(FOUR, move(0, 11), get(2))[1:], [[2], [1, 2, 21, 26, 1, *b"a"]])
        self.assertEqual(run(FOUR, move(3, -30), get(0))[1:], [[0], [1, 2, 0, 69, 1, *b"d"]])

    def test_there_and_back_again(self):
        for i, d in ((0, 11), (0, 15), (0, 500), (3, -15), (3, -30), (3, 7), (2, 359)):
            with self.subTest(i=i, d=d):
                number = last(FOUR, move(i, d))[0]
                self.assertEqual(run(FOUR, move(i, d), move(number, -d))[2], [i])
                self.assertEqual(shown(FOUR, move(i, d), move(number, -d)), shown(FOUR))

    def test_no_such_caption(self):
        self.assertEqual(run(move(0, 0)), [[-4]])
        self.assertRefused(FOUR, move(4, 0), -4)
        self.assertRefused(FOUR, move(BIGGEST, 1), -4)

    def test_no_such_caption_counts_before_the_times(self):
        self.assertRefused(FOUR, move(4, FARTHEST), -4)
        self.assertRefused(FOUR, move(BIGGEST, -FARTHEST), -4)

    def test_below_0(self):
        self.assertEqual(last(FOUR, move(0, -10)), [0])
        self.assertRefused(FOUR, move(0, -11), -3)
        self.assertRefused(FOUR, move(0, -16), -3)
        self.assertRefused(FOUR, move(3, -31), -3)

    def test_from_the_end_of_times_on(self):
        self.assertEqual(last(FOUR, move(0, TIMES_END - 16)), [3])
        self.assertRefused(FOUR, move(0, TIMES_END - 15), -3)
        self.assertRefused(FOUR, move(0, TIMES_END - 11), -3)
        self.assertRefused(FOUR, move(0, TIMES_END - 10), -3)
        self.assertRefused(FOUR, move(0, TIMES_END), -3)

    def test_the_ends_of_d(self):
        self.assertRefused(FOUR, move(0, FARTHEST), -3)
        self.assertRefused(FOUR, move(0, -FARTHEST), -3)

    def test_with_128_there_is_room_still(self):
        calls = [add(k, 1000, b"x") for k in range(128)]
        self.assertEqual(last(*calls, move(0, 999)), [127])

    def assertRefused(self, before, call, number):
        with self.subTest(call=call):
            self.assertEqual(last(before, call), [number])
            self.assertEqual(shown(before, call), shown(before))


class Shift(unittest.TestCase):
    def test_all_times(self):
        self.assertEqual(last(FOUR, shift(5)), [0])
        self.assertEqual(shown(FOUR, shift(5)), caption(15, 20, b"a") + caption(25, 34, b"b") + caption(25, 27, b"c")
                         + caption(35, 104, b"d"))
        self.assertEqual(shown(FOUR, shift(-10)), caption(0, 5, b"a") + caption(10, 19, b"b") + caption(10, 12, b"c")
                         + caption(20, 89, b"d"))

    def test_by_0(self):
        self.assertEqual(last(FOUR, shift(0)), [0])
        self.assertEqual(shown(FOUR, shift(0)), shown(FOUR))

    def test_of_no_captions(self):
        for d in (0, 1, -1, TIMES_END, FARTHEST, -FARTHEST):
            self.assertEqual(run(shift(d), text()), [[0], [0, 0]])

    def test_any_one_time_out_and_nothing_is_changed(self):
        for before, d in ((FOUR, -11), (FOUR, TIMES_END - 99), (FOUR, TIMES_END - 50), (ENDS, 1), (ENDS, -1),
                          (ENDS, TIMES_END), (ENDS, -TIMES_END), (FOUR, FARTHEST), (FOUR, -FARTHEST)):
            with self.subTest(d=d):
                self.assertEqual(last(before, shift(d)), [-3])
                self.assertEqual(shown(before, shift(d)), shown(before))

    def test_an_earlier_one_may_be_the_one_that_ends_last(self):
        before = read(caption(0, 359999999, b"a") + caption(1, 2, b"b"))
        self.assertEqual(last(before, shift(1)), [-3])

    def test_just_within(self):
        self.assertEqual(run(FOUR, shift(TIMES_END - 100), get(3))[1:],
                         [[0], [1, 2, TIMES_END - 70, TIMES_END - 1, 1, *b"d"]])

    def test_there_and_back_again(self):
        for d in (1, -10, 12345, TIMES_END - 100):
            self.assertEqual(run(FOUR, shift(d), shift(-d))[1:], [[0], [0]])
            self.assertEqual(shown(FOUR, shift(d), shift(-d)), shown(FOUR))


if __name__ == "__main__":
    unittest.main()

"""C5: split and joined, in order and as it was."""

import unittest

from tests.helper import BIGGEST, TIMES_END, add, caption, get, join, last, many, order, read, run, shown, split

LINES = (b"a", b"b", b"c")
ONE = read(caption(10, 20, *LINES))
FIVE = read(caption(0, 90, b"0") + caption(10, 50, *LINES) + caption(20, 25, b"2") + caption(30, 99, b"3")
            + caption(30, 31, b"4"))


class Refusing(unittest.TestCase):
    def assertRefused(self, before, call, number):
        with self.subTest(call=call):
            self.assertEqual(last(before, call), [number])
            self.assertEqual(shown(before, call), shown(before))


class Split(Refusing):
    def test_its_times_and_its_lines(self):
        self.assertEqual(last(ONE, split(0, 14, 1)), [1])
        self.assertEqual(shown(ONE, split(0, 14, 1)), caption(10, 14, b"a") + caption(14, 20, b"b", b"c"))
        self.assertEqual(shown(ONE, split(0, 14, 2)), caption(10, 14, b"a", b"b") + caption(14, 20, b"c"))

    def test_times_that_just_go(self):
        self.assertEqual(shown(ONE, split(0, 11, 1)), caption(10, 11, b"a") + caption(11, 20, b"b", b"c"))
        self.assertEqual(shown(ONE, split(0, 19, 1)), caption(10, 19, b"a") + caption(19, 20, b"b", b"c"))

    def test_of_eight_lines(self):
        lines = [b"%d" % k for k in range(8)]
        before = read(caption(0, 9, *lines))
        for j in range(1, 8):
            self.assertEqual(shown(before, split(0, 5, j)), caption(0, 5, *lines[:j]) + caption(5, 9, *lines[j:]))

    def assertNumber(self, t, number, names):
        with self.subTest(t=t):
            self.assertEqual(last(FIVE, split(1, t, 1)), [number])
            self.assertEqual("".join(order(FIVE, split(1, t, 1))), names)

    def test_its_number_behind_those_that_do_not_begin_later(self):
        self.assertNumber(11, 2, "0ab234")
        self.assertNumber(19, 2, "0ab234")
        self.assertNumber(21, 3, "0a2b34")
        self.assertNumber(29, 3, "0a2b34")
        self.assertNumber(31, 5, "0a234b")
        self.assertNumber(49, 5, "0a234b")

    def test_where_another_begins_then(self):
        self.assertNumber(20, 3, "0a2b34")
        self.assertNumber(30, 5, "0a234b")

    def test_the_others_stay_as_they_are(self):
        self.assertEqual(shown(FIVE, split(1, 30, 2)),
                         caption(0, 90, b"0") + caption(10, 30, b"a", b"b") + caption(20, 25, b"2")
                         + caption(30, 99, b"3") + caption(30, 31, b"4") + caption(30, 50, b"c"))

    def test_no_such_caption(self):
        self.assertEqual(run(split(0, 5, 1)), [[-4]])
        self.assertRefused(ONE, split(1, 14, 1), -4)
        self.assertRefused(ONE, split(BIGGEST, 14, 1), -4)

    def test_a_time_that_is_not_within(self):
        for t in (0, 9, 10, 20, 21, TIMES_END, BIGGEST):
            self.assertRefused(ONE, split(0, t, 1), -3)

    def test_lines_that_leave_one_of_both_without(self):
        for j in (0, 3, 4, 8, BIGGEST):
            self.assertRefused(ONE, split(0, 14, j), -3)
        for j in (0, 1, 2):
            self.assertRefused(FIVE, split(0, 14, j), -3)

    def test_no_room_at_128(self):
        full = read(many(127) + caption(500, 600, *LINES))
        self.assertRefused(full, split(127, 550, 1), -6)
        room = read(many(126) + caption(500, 600, *LINES))
        self.assertEqual(last(room, split(126, 550, 1)), [127])
        self.assertEqual(last(room, split(126, 550, 1), split(127, 560, 1)), [-6])

    def test_the_number_counts_before_the_time_and_the_lines(self):
        self.assertEqual(run(split(0, 0, 0)), [[-4]])
        self.assertRefused(ONE, split(1, 10, 0), -4)
        self.assertRefused(ONE, split(BIGGEST, BIGGEST, BIGGEST), -4)
        self.assertRefused(read(many(128)), split(128, 1, 1), -4)

    def test_the_time_and_the_lines_count_before_the_room(self):
        full = read(many(127) + caption(500, 600, *LINES))
        self.assertRefused(full, split(127, 500, 1), -3)
        self.assertRefused(full, split(127, 550, 3), -3)
        self.assertRefused(full, split(0, 1, 1), -3)


class Join(Refusing):
    def test_0_and_the_later_of_both_ends(self):
        for first, second, stop in ((9, 5, 9), (5, 9, 9), (7, 7, 7), (2, 4, 4), (3, 4, 4)):
            before = read(caption(1, first, b"a") + caption(3, second, b"b"))
            with self.subTest(first=first, second=second):
                self.assertEqual(last(before, join(0)), [0])
                self.assertEqual(shown(before, join(0)), caption(1, stop, b"a", b"b"))

    def test_lines_behind_one_another(self):
        before = read(caption(1, 9, b"a", b"b") + caption(1, 9, b"b", b" ", b"c"))
        self.assertEqual(shown(before, join(0)), caption(1, 9, b"a", b"b", b"b", b" ", b"c"))

    def test_the_numbers_of_those_behind(self):
        self.assertEqual(order(FIVE, join(0)), ["0", "2", "3", "4"])
        self.assertEqual(order(FIVE, join(1)), ["0", "a", "3", "4"])
        self.assertEqual(order(FIVE, join(3)), ["0", "a", "2", "3"])
        self.assertEqual(last(FIVE, join(1), get(2)), [1, 2, 30, 99, 1, *b"3"])
        self.assertEqual(last(FIVE, join(1), get(1)), [4, 2, 10, 50, 1, *b"a", 1, *b"b", 1, *b"c", 1, *b"2"])

    def test_all_of_them_one_by_one(self):
        self.assertEqual(run(FIVE, join(0), join(0), join(0), join(0), join(0))[1:], [[0], [0], [0], [0], [-4]])
        self.assertEqual(shown(FIVE, *[join(0)] * 4), caption(0, 99, b"0", *LINES, b"2", b"3", b"4"))

    def test_no_next_one(self):
        self.assertEqual(run(join(0), join(1), join(BIGGEST)), [[-4], [-4], [-4]])
        self.assertRefused(ONE, join(0), -4)
        for i in (4, 5, BIGGEST - 1, BIGGEST):
            self.assertRefused(FIVE, join(i), -4)

    def test_8_lines_go_and_9_do_not(self):
        for first in range(1, 9):
            for second in range(1, 9):
                data = caption(1, 2, *[b"x"] * first) + caption(3, 4, *[b"y"] * second)
                if first + second > 8:
                    self.assertRefused(read(data), join(0), -6)
                else:
                    self.assertEqual(last(read(data), join(0)), [0])
                    self.assertEqual(shown(read(data), join(0)), caption(1, 4, *[b"x"] * first, *[b"y"] * second))

    def test_no_next_one_counts_before_too_many_lines(self):
        data = caption(1, 2, *[b"x"] * 8)
        self.assertRefused(read(data + data), join(1), -4)
        self.assertRefused(read(data + data), join(0), -6)


class SplitAndJoined(unittest.TestCase):
    def test_as_it_was(self):
        for t in range(11, 20):
            for j in (1, 2):
                with self.subTest(t=t, j=j):
                    self.assertEqual(run(FIVE, split(1, t, j), join(1))[1:], [[2], [0]])
                    self.assertEqual(shown(FIVE, split(1, t, j), join(1)), shown(FIVE))

    def test_as_it_was_with_one_in_front_that_begins_at_the_same_time(self):
        calls = [add(5, 9, b"a", b"b"), add(5, 9, b"c", b"d"), add(7, 8, b"e", b"f")]
        self.assertEqual(run(*calls, split(1, 6, 1), join(1))[3:], [[2], [0]])
        self.assertEqual(shown(*calls, split(1, 6, 1), join(1)), shown(*calls))

    def test_the_next_one_is_joined_whichever_it_is(self):
        before = read(caption(10, 50, b"a", b"b") + caption(20, 25, b"c"))
        self.assertEqual(last(before, split(0, 30, 1)), [2])
        self.assertEqual(shown(before, split(0, 30, 1), join(0)), caption(10, 30, b"a", b"c") + caption(30, 50, b"b"))

    def test_joined_and_split_is_as_it_was(self):
        data = caption(1, 5, b"a") + caption(5, 9, b"b", b"c") + caption(6, 7, b"d")
        self.assertEqual(shown(read(data), join(0), split(0, 5, 1)), data)


if __name__ == "__main__":
    unittest.main()

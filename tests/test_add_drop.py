"""C5: put in and dropped, in order and as it was."""

import unittest

from tests.helper import BIGGEST, TIMES_END, add, caption, drop, get, last, many, order, read, run, shown

FIVE = [add(20, 30, b"c"), add(10, 40, b"a"), add(20, 25, b"d"), add(30, 31, b"e"), add(15, 90, b"b")]


class Add(unittest.TestCase):
    def test_its_number_among_the_others(self):
        self.assertEqual(run(*FIVE), [[0], [0], [2], [3], [1]])
        self.assertEqual(order(*FIVE), ["a", "b", "c", "d", "e"])

    def test_before_all_behind_all_and_behind_equal_ones(self):
        self.assertEqual(last(*FIVE, add(9, 1000, b"x")), [0])
        self.assertEqual(last(*FIVE, add(10, 11, b"x")), [1])
        self.assertEqual(last(*FIVE, add(20, 21, b"x")), [4])
        self.assertEqual(last(*FIVE, add(29, 1000, b"x")), [4])
        self.assertEqual(last(*FIVE, add(30, 1000, b"x")), [5])
        self.assertEqual(last(*FIVE, add(31, 1000, b"x")), [5])

    def test_the_end_says_nothing_of_the_order(self):
        self.assertEqual(order(add(5, 9, b"a"), add(5, 6, b"b"), add(5, 99, b"c")), ["a", "b", "c"])

    def test_what_just_is_a_caption(self):
        for call in (add(0, 1, b"x"), add(359999998, 359999999, b"x"), add(0, 359999999, b" "),
                     add(0, 1, *[b"~"] * 8), add(0, 1, b"x" * 80), add(0, 1, *[b"x" * 80] * 8)):
            with self.subTest(call=call):
                self.assertEqual(run(call), [[0]])

    def test_times_that_are_no_caption_s(self):
        for start, stop in ((0, 0), (5, 5), (5, 4), (5, 0), (359999999, 359999999), (0, TIMES_END),
                            (0, TIMES_END + 1), (0, BIGGEST), (BIGGEST, 0), (BIGGEST, BIGGEST),
                            (BIGGEST - 1, BIGGEST), (TIMES_END, TIMES_END + 1), (TIMES_END, 5)):
            self.assertNoCaption(add(start, stop, b"x"))

    def test_lines_that_are_no_caption_s(self):
        for lines in ([], [b"x"] * 9, [b"x"] * 10, [b""], [b"x", b""], [b"", b"x"], [b"x" * 81], [b"x" * 100],
                      [b"x", b"x" * 81], [b"\x1f"], [b"\x7f"], [b"\xff"], [b"\n"], [b"\x00"],
                      [b"x", b"ab\x1fc"], [b"ab\x7f", b"x"], [b"x" * 79 + b"\xff"]):
            self.assertNoCaption(add(0, 1, *lines))

    def assertNoCaption(self, call):
        with self.subTest(call=call):
            self.assertEqual(run(call), [[-1]])
            self.assertEqual(last(*FIVE, call), [-1])
            self.assertEqual(shown(*FIVE, call), shown(*FIVE))

    def test_no_room_at_128(self):
        self.assertEqual(last(read(many(127)), add(0, 1, b"x")), [1])
        self.assertEqual(last(read(many(127)), add(0, 1, b"x"), add(0, 1, b"y")), [-6])
        self.assertEqual(last(read(many(128)), add(0, 1, b"x")), [-6])
        self.assertEqual(shown(read(many(128)), add(0, 1, b"x")), many(128))

    def test_no_caption_counts_before_no_room(self):
        self.assertEqual(last(read(many(128)), add(1, 1, b"x")), [-1])
        self.assertEqual(last(read(many(128)), add(0, 1)), [-1])

    def test_128_put_in_one_by_one(self):
        calls = [add(1000 - k, 2000, b"x") for k in range(129)]
        self.assertEqual(run(*calls), [[0]] * 128 + [[-6]])

    def test_room_again_when_one_is_dropped(self):
        self.assertEqual(run(read(many(128)), drop(127), add(500, 501, b"x"))[1:], [[0], [127]])


class Drop(unittest.TestCase):
    def test_the_numbers_behind_it(self):
        self.assertEqual(last(*FIVE, drop(1)), [0])
        self.assertEqual(order(*FIVE, drop(1)), ["a", "c", "d", "e"])
        self.assertEqual(order(*FIVE, drop(0)), ["b", "c", "d", "e"])
        self.assertEqual(order(*FIVE, drop(4)), ["a", "b", "c", "d"])
        self.assertEqual(last(*FIVE, drop(1), get(1)), [1, 2, 20, 30, 1, *b"c"])

    def test_the_last_one_left(self):
        self.assertEqual(run(add(1, 2, b"a"), drop(0), drop(0)), [[0], [0], [-4]])

    def test_no_such_caption(self):
        self.assertEqual(run(drop(0), drop(BIGGEST)), [[-4], [-4]])
        for i in (5, 6, BIGGEST):
            self.assertEqual(last(*FIVE, drop(i)), [-4])
            self.assertEqual(shown(*FIVE, drop(i)), shown(*FIVE))

    def test_put_in_and_dropped_is_as_it_was(self):
        for start in range(8, 33):
            number = last(*FIVE, add(start, 1000, b"x"))[0]
            with self.subTest(start=start):
                self.assertEqual(shown(*FIVE, add(start, 1000, b"x"), drop(number)), shown(*FIVE))

    def test_dropped_and_put_in_is_as_it_was(self):
        data = caption(1, 5, b"a") + caption(2, 9, b"b", b"c") + caption(3, 4, b"d")
        self.assertEqual(shown(read(data), drop(1), add(2, 9, b"b", b"c")), data)


if __name__ == "__main__":
    unittest.main()

"""C1: a text is read, takes the place of what was, and is told again."""

import unittest

from tests.helper import add, caption, drop, get, last, many, order, read, run, shown, text


class Read(unittest.TestCase):
    def test_no_bytes_are_no_captions(self):
        self.assertEqual(run(read(b""), text()), [[0], [0, 0]])

    def test_one_caption(self):
        data = b"01:02:03.004-05:06:07.089\nOne\n two  lines \n\n"
        self.assertEqual(run(read(data), get(0)), [
            [1],
            [2, 2, 3723004, 18367089, 3, *b"One", 12, *b" two  lines "],
        ])

    def test_several_captions_with_equal_beginnings_keep_their_order(self):
        data = (caption(5, 9, b"a") + caption(5, 6, b"b") + caption(5, 9, b"c")
                + caption(6, 7, b"d"))
        self.assertEqual(run(read(data))[0], [4])
        self.assertEqual(order(read(data)), ["a", "b", "c", "d"])

    def test_captions_may_stand_together(self):
        data = caption(0, 1000, b"a") + caption(1, 2, b"b")
        self.assertEqual(shown(read(data)), data)

    def test_what_is_read_takes_the_place_of_what_was(self):
        first = many(3)
        second = caption(0, 7, b"new")
        self.assertEqual(shown(read(first), read(second)), second)
        self.assertEqual(shown(add(9, 10, b"old"), read(second)), second)
        self.assertEqual(run(read(first), read(b""), text()), [[3], [0], [0, 0]])

    def test_a_second_reading_need_not_begin_behind_the_first(self):
        self.assertEqual(run(read(caption(500, 600, b"a")), read(caption(1, 2, b"b"))), [[1], [1]])

    def test_a_text_read_is_told_as_the_same_bytes(self):
        every_sign = bytes(range(32, 127))
        texts = [
            b"",
            caption(0, 1, b"!"),
            caption(0, 359999999, b" ", b"~", every_sign[:80], every_sign[80:]),
            caption(3599999, 3600000, b"x" * 80) + caption(3599999, 356400000, b"00:00:00.000-00:00:00.001"),
            caption(0, 1, *[b"line"] * 8) + caption(0, 1, *[b"z" * 80] * 8),
            many(128, 59990),
        ]
        for data in texts:
            with self.subTest(data=data):
                answer = last(read(data), text())
                self.assertEqual(answer[0], data.count(b"\n\n"))
                self.assertEqual(answer[1], len(data))
                self.assertEqual(bytes(answer[2:]), data)

    def test_what_is_told_is_read_back(self):
        calls = [add(7, 9, b"b"), add(0, 359999999, b"a", b" "), add(7, 8, b"c"), drop(1)]
        told = shown(*calls)
        self.assertEqual(told, caption(0, 359999999, b"a", b" ") + caption(7, 8, b"c"))
        self.assertEqual(shown(read(told)), told)

    def test_the_most_that_can_stand(self):
        self.assertEqual(last(read(caption(0, 1, *[b"x"] * 8))), [1])
        self.assertEqual(last(read(caption(0, 1, b"x" * 80))), [1])
        self.assertEqual(last(read(many(128))), [128])

    def test_after_a_fault_all_is_as_it_was(self):
        before = many(3)
        good = caption(50, 60, b"new")
        faults = [
            good + b"x", good[:-1], caption(0, 1, b"x")[:20], b"00:60:00.000", good + caption(70, 70, b"x"),
            good + caption(49, 70, b"x"), caption(0, 1, *[b"x"] * 9), good + caption(50, 51, b"x" * 81), many(129),
        ]
        for data in faults:
            with self.subTest(data=data):
                answers = run(read(before), read(data), text())
                self.assertEqual(answers[1][:2], [-2, 2])
                self.assertEqual(bytes(answers[2][2:]), before)

    def test_more_than_16384_bytes(self):
        # Longer than the interface hands in, but the call's own words name it.
        full = b"".join(caption(k, k + 1, *[b"x" * 80] * 2) for k in range(86))
        most = full + caption(86, 87, b"x" * 80, b"x" * 21)
        self.assertEqual(len(most), 16384)
        self.assertEqual(run(read(most)), [[87]])
        self.assertEqual(run(read(b"x" * 16384)), [[-2, 2, 1, 0]])
        self.assertEqual(run(add(1, 2, b"a"), read(most + b"\n"), get(0)), [[0], [-1], [1, 2, 1, 2, 1, 97]])


if __name__ == "__main__":
    unittest.main()

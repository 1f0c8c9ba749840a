"""C5: stretched, the captions are captions still, and in order."""

import unittest

from tests.helper import BIGGEST, TIMES_END, caption, get, last, read, run, shown, stretch, text

THREE = read(caption(10, 15, b"a") + caption(11, 29, b"b", b"c") + caption(11, 12, b"d"))


class Stretch(unittest.TestCase):
    def test_each_time(self):
        self.assertEqual(last(THREE, stretch(3, 1)), [0])
        self.assertEqual(shown(THREE, stretch(3, 1)),
                         caption(30, 45, b"a") + caption(33, 87, b"b", b"c") + caption(33, 36, b"d"))

    def test_rounded_down(self):
        self.assertEqual(run(read(caption(5, 8, b"x")), stretch(1, 3), get(0))[1:], [[0], [1, 2, 1, 2, 1, *b"x"]])
        self.assertEqual(run(read(caption(7, 11, b"x")), stretch(3, 4), get(0))[1:], [[0], [1, 2, 5, 8, 1, *b"x"]])
        self.assertEqual(run(read(caption(999, 359999999, b"x")), stretch(999, 1000), get(0))[1:],
                         [[0], [1, 2, 998, 359639999, 1, *b"x"]])
        self.assertEqual(run(read(caption(1, 2, b"x")), stretch(1000, 999), get(0))[1:],
                         [[0], [1, 2, 1, 2, 1, *b"x"]])

    def test_by_one(self):
        for p in (1, 2, 1000):
            self.assertEqual(last(THREE, stretch(p, p)), [0])
            self.assertEqual(shown(THREE, stretch(p, p)), shown(THREE))

    def test_p_and_q_at_their_ends(self):
        self.assertEqual(last(THREE, stretch(1000, 1)), [0])
        self.assertEqual(run(read(caption(0, 1000, b"x")), stretch(1, 1000), get(0))[1:],
                         [[0], [1, 2, 0, 1, 1, *b"x"]])

    def test_p_or_q_out_of_their_range(self):
        for wrong in (0, 1001, BIGGEST):
            for call in (stretch(wrong, 1), stretch(1, wrong), stretch(wrong, wrong), stretch(wrong, 1000),
                         stretch(1000, wrong)):
                with self.subTest(call=call):
                    self.assertEqual(run(call), [[-1]])
                    self.assertEqual(last(THREE, call), [-1])
                    self.assertEqual(shown(THREE, call), shown(THREE))

    def test_of_no_captions(self):
        self.assertEqual(run(stretch(1, 1000), stretch(1000, 1), text()), [[0], [0], [0, 0]])

    def test_one_that_would_not_end_later_than_it_begins(self):
        data = caption(10, 15, b"a") + caption(20, 21, b"b") + caption(30, 40, b"c")
        self.assertRefused(data, stretch(1, 2))
        self.assertRefused(data, stretch(1, 1000))
        self.assertRefused(caption(0, 999, b"x"), stretch(1, 1000))
        self.assertRefused(caption(0, 500, b"a") + caption(0, 1, b"x"), stretch(999, 1000))

    def test_one_that_would_reach_the_end_of_times(self):
        self.assertRefused(caption(0, 1, b"a") + caption(1, 180000000, b"b"), stretch(2, 1))
        self.assertRefused(caption(0, 180000000, b"a") + caption(1, 2, b"b"), stretch(2, 1))
        self.assertRefused(caption(0, 360000, b"x"), stretch(1000, 1))
        self.assertRefused(caption(0, 359999999, b"x"), stretch(1000, 1))
        self.assertRefused(caption(0, 359999999, b"x"), stretch(1000, 999))
        self.assertRefused(caption(359999998, 359999999, b"x"), stretch(1000, 1))

    def test_just_within(self):
        self.assertEqual(run(read(caption(0, 179999999, b"x")), stretch(2, 1), get(0))[1:],
                         [[0], [1, 2, 0, TIMES_END - 2, 1, *b"x"]])

    def assertRefused(self, data, call):
        with self.subTest(data=data, call=call):
            self.assertEqual(last(read(data), call), [-3])
            self.assertEqual(shown(read(data), call), data)

    def test_in_order_still(self):
        data = b"".join(caption(k, k + 50, b"%d" % k) for k in range(100))
        for p, q in ((1, 3), (2, 7), (999, 1000), (1000, 999), (1, 50), (49, 48)):
            with self.subTest(p=p, q=q):
                after = b"".join(caption(k * p // q, (k + 50) * p // q, b"%d" % k) for k in range(100))
                self.assertEqual(shown(read(data), stretch(p, q)), after)
                self.assertEqual(last(read(after)), [100])


if __name__ == "__main__":
    unittest.main()

"""C3: the next time at which what stands changes; and how many there are."""

import unittest

from tests.helper import BIGGEST, TIMES_END
from tests.helper import add, at, caption, count, drop, last, many, next_time, read, run, shift, shown

THREE = read(caption(10, 90, b"a") + caption(20, 25, b"b") + caption(30, 40, b"c"))


class Next(unittest.TestCase):
    def assertNext(self, before, t, time):
        with self.subTest(t=t):
            self.assertEqual(last(before, next_time(t)), [0, 1, time])

    def test_a_from(self):
        self.assertNext(THREE, 0, 10)
        self.assertNext(THREE, 15, 20)
        self.assertNext(THREE, 27, 30)

    def test_a_to(self):
        self.assertNext(THREE, 22, 25)
        self.assertNext(THREE, 33, 40)
        self.assertNext(THREE, 50, 90)

    def test_just_at_such_a_time(self):
        for t, time in ((10, 20), (20, 25), (25, 30), (30, 40), (40, 90)):
            self.assertNext(THREE, t, time)

    def test_one_before_such_a_time(self):
        for time in (10, 20, 25, 30, 40, 90):
            self.assertNext(THREE, time - 1, time)

    def test_an_earlier_one_that_ends_later(self):
        self.assertNext(read(caption(0, 100, b"a") + caption(1, 50, b"b")), 1, 50)
        self.assertNext(read(caption(0, 100, b"a") + caption(1, 50, b"b")), 50, 100)
        self.assertNext(read(caption(0, 5, b"a") + caption(1, 50, b"b")), 1, 5)

    def test_a_from_before_an_earlier_one_s_to(self):
        self.assertNext(read(caption(0, 100, b"a") + caption(50, 60, b"b")), 0, 50)

    def test_time_0_is_never_later(self):
        self.assertNext(read(caption(0, 7, b"a")), 0, 7)

    def test_the_last_time_there_can_be(self):
        self.assertNext(read(caption(0, 359999999, b"a")), 359999998, 359999999)
        self.assertEqual(last(read(caption(0, 359999999, b"a")), next_time(359999999)), [-5])

    def test_none_later(self):
        for t in (90, 91, TIMES_END, BIGGEST):
            with self.subTest(t=t):
                self.assertEqual(last(THREE, next_time(t)), [-5])

    def test_no_captions(self):
        self.assertEqual(run(next_time(0), next_time(BIGGEST)), [[-5], [-5]])

    def test_what_stands_changes_just_at_these_times(self):
        for t in range(95):
            if last(THREE, at(t)) != last(THREE, at(t + 1)):
                self.assertNext(THREE, t, t + 1)

    def test_changes_nothing(self):
        self.assertEqual(shown(THREE, next_time(5), next_time(500)), shown(THREE))


class Count(unittest.TestCase):
    def test_of_none(self):
        self.assertEqual(run(count()), [[0, 1, 0]])
        self.assertEqual(last(add(1, 2, b"a"), drop(0), count()), [0, 1, 0])

    def test_how_many_and_the_latest_to(self):
        self.assertEqual(last(read(caption(10, 20, b"a")), count()), [1, 1, 20])
        self.assertEqual(last(read(caption(10, 20, b"a") + caption(15, 30, b"b")), count()), [2, 1, 30])

    def test_the_latest_to_is_not_the_last_one_s(self):
        self.assertEqual(last(THREE, count()), [3, 1, 90])
        self.assertEqual(last(read(caption(0, 5, b"a") + caption(1, 359999999, b"b") + caption(2, 3, b"c")), count()),
                         [3, 1, 359999999])

    def test_of_128(self):
        self.assertEqual(last(read(many(128)), count()), [128, 1, 128])
        self.assertEqual(last(read(many(128)), add(0, 500, b"x"), count()), [128, 1, 128])

    def test_changes_nothing(self):
        self.assertEqual(run(THREE, count(), shift(1), count())[1:], [[3, 1, 90], [0], [3, 1, 91]])
        self.assertEqual(shown(THREE, count()), shown(THREE))


if __name__ == "__main__":
    unittest.main()

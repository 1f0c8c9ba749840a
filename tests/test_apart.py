"""C4: apart, no two captions stand together."""

import unittest

from tests.helper import BIGGEST, TIMES_END, apart, at, caption, last, many, read, run, shown, text

THREE = (10, 40), (20, 35), (30, 99)
WIDE = (100, 900), (1000, 2100), (2000, 2500), (3000, 9000)


def row(*times):
    return b"".join(caption(start, stop, b"%d" % k, b"x") for k, (start, stop) in enumerate(times))


class Apart(unittest.TestCase):
    def assertApart(self, times, g, number, wanted):
        with self.subTest(times=times, g=g):
            self.assertEqual(last(read(row(*times)), apart(g)), [number])
            self.assertEqual(shown(read(row(*times)), apart(g)), row(*wanted))

    def assertRefused(self, times, g, number):
        with self.subTest(times=times, g=g):
            self.assertEqual(last(read(row(*times)), apart(g)), [number])
            self.assertEqual(shown(read(row(*times)), apart(g)), row(*times))

    def test_how_many_are_changed(self):
        self.assertApart(THREE, 0, 2, [(10, 20), (20, 30), (30, 99)])
        self.assertApart([(10, 40), (20, 25), (30, 99)], 0, 1, [(10, 20), (20, 25), (30, 99)])
        self.assertApart([(10, 15), (20, 25), (30, 99)], 0, 0, [(10, 15), (20, 25), (30, 99)])

    def test_with_more_between(self):
        self.assertApart(THREE, 5, 2, [(10, 15), (20, 25), (30, 99)])
        self.assertApart(THREE, 9, 2, [(10, 11), (20, 21), (30, 99)])
        self.assertApart(WIDE, 200, 2, [(100, 800), (1000, 1800), (2000, 2500), (3000, 9000)])
        self.assertApart(WIDE, 501, 3, [(100, 499), (1000, 1499), (2000, 2499), (3000, 9000)])

    def test_one_that_ends_just_so_far_before_is_not_changed(self):
        self.assertApart([(10, 20), (20, 30)], 0, 0, [(10, 20), (20, 30)])
        self.assertApart([(10, 21), (20, 30)], 0, 1, [(10, 20), (20, 30)])
        self.assertApart([(10, 15), (20, 30)], 5, 0, [(10, 15), (20, 30)])
        self.assertApart([(10, 15), (20, 30)], 6, 1, [(10, 14), (20, 30)])
        self.assertApart([(10, 15), (20, 30)], 4, 0, [(10, 15), (20, 30)])

    def test_each_looks_at_the_next_one_s_beginning_alone(self):
        self.assertApart([(10, 500), (20, 25), (30, 99)], 0, 1, [(10, 20), (20, 25), (30, 99)])
        self.assertApart([(10, 12), (20, 500), (400, 401)], 0, 1, [(10, 12), (20, 400), (400, 401)])
        # Changed one after the other, each by a beginning that stays as it is.
        self.assertApart([(0, 99), (1, 99), (2, 99), (3, 99)], 0, 3, [(0, 1), (1, 2), (2, 3), (3, 99)])

    def test_the_last_one_is_never_changed(self):
        self.assertApart([(10, 359999999)], 0, 0, [(10, 359999999)])
        self.assertApart([(10, 359999999)], TIMES_END - 1, 0, [(10, 359999999)])
        self.assertApart([(0, 1), (359999998, 359999999)], TIMES_END - 3, 0, [(0, 1), (359999998, 359999999)])

    def test_of_no_captions(self):
        self.assertEqual(run(apart(0), apart(TIMES_END - 1), text()), [[0], [0], [0, 0]])

    def test_as_much_as_is_not_allowed(self):
        for g in (TIMES_END, TIMES_END + 1, BIGGEST):
            self.assertEqual(run(apart(g)), [[-1]])
            self.assertRefused([(10, 20)], g, -1)
            self.assertRefused(THREE, g, -1)
            self.assertRefused([(10, 20), (10, 20)], g, -1)

    def test_two_that_begin_at_the_same_time(self):
        self.assertRefused([(10, 20), (10, 20)], 0, -3)
        self.assertRefused([(0, 1), (0, 1)], 0, -3)
        self.assertRefused([(10, 20), (15, 25), (15, 30), (40, 50)], 0, -3)

    def test_more_than_lies_between(self):
        self.assertRefused(THREE, 10, -3)
        self.assertRefused(THREE, 11, -3)
        self.assertRefused(THREE, 25, -3)
        self.assertRefused(THREE, TIMES_END - 1, -3)
        self.assertRefused([(10, 15), (20, 30)], 10, -3)

    def test_then_not_even_those_in_front_are_changed(self):
        self.assertRefused([(10, 40), (20, 35), (30, 99), (33, 99)], 5, -3)
        self.assertRefused([(10, 40), (20, 35), (30, 99), (30, 99), (90, 95)], 0, -3)

    def test_only_the_end_is_changed(self):
        data = caption(5, 90, b"a", b" b ") + caption(50, 60, *[b"c"] * 8)
        self.assertEqual(shown(read(data), apart(1)), caption(5, 49, b"a", b" b ") + caption(50, 60, *[b"c"] * 8))

    def test_a_second_time_none_are_changed(self):
        for g in (0, 5, 9):
            self.assertEqual(run(read(row(*THREE)), apart(g), apart(g))[1:], [[2], [0]])

    def test_behind_it_no_two_stand_together(self):
        for g in range(10):
            calls = [read(row(*THREE, (45, 200), (99, 100))), apart(g)]
            for answer in run(*calls, *[at(t) for t in range(205)])[2:]:
                self.assertLessEqual(answer[0], 1)

    def test_of_128(self):
        data = b"".join(caption(k, 1000, b"x") for k in range(128))
        self.assertEqual(last(read(data), apart(0)), [127])
        self.assertEqual(last(read(many(128)), apart(0)), [0])


if __name__ == "__main__":
    unittest.main()

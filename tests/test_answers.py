"""The interface: calls in one list, answers in one list, nothing kept."""

import unittest

from tests.helper import BIGGEST, FARTHEST, TIMES_END
from tests.helper import add, apart, at, caption, count, drop, fast, get, join, move, next_time, read, run, shift, shown
from tests.helper import split, stretch, text, wrap
from undertexts.captions import answers

ALL = (read(caption(1, 2, b"a")) + text() + get(0) + get(9) + add(0, 5, b"b", b"cd") + add(0, 0, b"b") + drop(1)
       + drop(1) + move(0, 7) + move(0, -8) + shift(3) + shift(-FARTHEST) + stretch(3, 2) + stretch(0, 1)
       + read(b"x") + text() + wrap(0, 3) + wrap(0, 81) + split(0, 19, 1) + count() + add(13, 18, b"xy z")
       + wrap(0, 1) + split(1, 18, 1) + join(1) + join(1) + at(16) + at(BIGGEST) + apart(1) + apart(TIMES_END)
       + fast(600) + fast(BIGGEST) + next_time(14) + next_time(22) + count() + text())


class Answers(unittest.TestCase):
    def test_how_many_numbers_then_these_for_each_call(self):
        first = caption(1, 2, b"a")
        then = b"00:00:00.015-00:00:00.022\nb\ncd\n\n"
        at_last = caption(13, 14, b"x", b"y", b"z") + then
        self.assertEqual(answers(ALL), [
            1, 1,
            2 + len(first), 1, len(first), *first,
            6, 1, 2, 1, 2, 1, 97,
            1, -4,
            1, 0,
            1, -1,
            1, 0,
            1, -4,
            1, 0,
            1, -3,
            1, 0,
            1, -3,
            1, 0,
            1, -1,
            4, -2, 2, 1, 0,
            2 + len(then), 1, len(then), *then,
            1, 2,
            1, -1,
            1, 1,
            3, 2, 1, 22,
            1, 0,
            1, 3,
            1, -3,
            1, 0,
            1, -4,
            4, 2, 2, 0, 1,
            2, 0, 0,
            1, 1,
            1, -1,
            3, 1, 1, 0,
            2, 0, 0,
            3, 0, 1, 15,
            1, -5,
            3, 2, 1, 22,
            2 + len(at_last), 2, len(at_last), *at_last,
        ])

    def test_the_smallest_lists(self):
        self.assertEqual(answers([1, 0, 0]), [2, 0, 0])
        self.assertEqual(answers([0, 0, 1, 0]), [1, 0])
        self.assertEqual(answers([3, 2, 0, 1, 0]), [1, -1])
        self.assertEqual(answers([3, 2, 0, 1, 1, 0]), [1, -1])
        self.assertEqual(answers([8, 1, 0, 0]), [2, 0, 0])
        self.assertEqual(answers([9, 2, 0, 0, 0]), [1, -1])
        self.assertEqual(answers([10, 3, 0, 0, 0, 0]), [1, -4])
        self.assertEqual(answers([11, 1, 0, 0]), [1, -4])
        self.assertEqual(answers([12, 1, 0, 0]), [1, 0])
        self.assertEqual(answers([13, 1, 0, 0]), [2, 0, 0])
        self.assertEqual(answers([14, 1, 0, 0]), [1, -5])
        self.assertEqual(answers([15, 0, 0]), [3, 0, 1, 0])

    def test_only_whole_numbers_are_given_back(self):
        given = answers(ALL)
        self.assertIs(type(given), list)
        self.assertEqual({type(number) for number in given}, {int})

    def test_what_is_handed_in_is_as_it_was(self):
        handed = list(ALL)
        answers(handed)
        self.assertEqual(handed, ALL)

    def test_what_is_handed_in_is_not_changed_for_a_while_either(self):
        class Watched(list):
            def refuse(self, *given):
                raise AssertionError("changed")
            __setitem__ = __delitem__ = __iadd__ = __imul__ = refuse
            append = extend = insert = pop = remove = clear = sort = reverse = refuse

        self.assertEqual(answers(Watched(ALL)), answers(ALL))

    def test_what_is_given_back_is_the_caller_s_own(self):
        given = answers(ALL)
        again = list(given)
        given.clear()
        self.assertEqual(answers(ALL), again)

    def test_a_second_time_knows_nothing_of_the_first(self):
        self.assertEqual(run(read(caption(1, 2, b"a"))), [[1]])
        self.assertEqual(run(text(), get(0), add(5, 6, b"b")), [[0, 0], [-4], [0]])
        self.assertEqual(run(add(5, 6, b"b"), text())[0], [0])

    def test_refusals_change_nothing(self):
        good = [read(caption(10, 20, b"a") + caption(15, 20, b"b", b"b", *[b" "] * 6)), add(12, 13, b"c"),
                add(30, 40, b" ")]
        refused = [(read(b"00"), [-2, 2, 1, 2]), (get(4), [-4]), (add(1, 1, b"x"), [-1]), (drop(4), [-4]),
                   (move(4, 1), [-4]), (move(0, -11), [-3]), (shift(-11), [-3]), (stretch(1, 100), [-3]),
                   (stretch(0, 0), [-1]), (wrap(0, 0), [-1]), (wrap(4, 1), [-4]), (wrap(3, 1), [-3]),
                   (split(4, 16, 1), [-4]), (split(2, 20, 1), [-3]), (join(3), [-4]), (join(2), [-6]),
                   (apart(TIMES_END), [-1]), (apart(2), [-3]), (next_time(40), [-5])]
        for call, answer in refused:
            with self.subTest(call=call):
                self.assertEqual(run(*good, call)[3:], [answer])
                self.assertEqual(shown(*good, call), shown(*good))
        calls = [call for call, answer in refused]
        self.assertEqual(run(*good, *calls)[3:], [answer for call, answer in refused])
        self.assertEqual(shown(*good, *calls), shown(*good))

    def test_300_calls(self):
        calls = [add(1, 2, b"x"), drop(0), text()] * 100
        self.assertEqual(run(*calls), [[0], [0], [0, 0]] * 100)

    def test_as_long_as_it_may_be(self):
        rows = [caption(k, k + 1, *[b"x" * 80] * 4) for k in range(45)]
        data = b"".join(rows)
        handed = read(data) + text()
        self.assertTrue(15000 < len(handed) <= 16000)
        self.assertEqual(answers(handed), [1, 45, 2 + len(data), 45, len(data), *data])

    def test_as_many_calls_with_short_lines_as_fit(self):
        calls = [add(k, k + 1, b"y") for k in range(128)] + [text()]
        self.assertEqual(run(*calls)[-1][0], 128)


if __name__ == "__main__":
    unittest.main()

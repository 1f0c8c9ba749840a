"""The interface: calls in one list, answers in one list, nothing kept."""

import unittest

from tests.helper import FARTHEST, add, caption, drop, get, move, read, run, shift, shown, stretch, text
from undertexts.captions import answers

ALL = (read(caption(1, 2, b"a")) + text() + get(0) + get(9) + add(0, 5, b"b", b"cd") + add(0, 0, b"b") + drop(1)
       + drop(1) + move(0, 7) + move(0, -8) + shift(3) + shift(-FARTHEST) + stretch(3, 2) + stretch(0, 1)
       + read(b"x") + text())


class Answers(unittest.TestCase):
    def test_how_many_numbers_then_these_for_each_call(self):
        first = caption(1, 2, b"a")
        then = b"00:00:00.015-00:00:00.022\nb\ncd\n\n"
        self.assertEqual(answers(ALL), [
            1, 1,
            2 + len(first), 1, len(first), *first,
            6, 1, 2, 1, 2, 1, 97,
            1, -4,
            1, 0,
            1, -1,
            1, 0,
            1, -4,
            1, 0,
            1, -3,
            1, 0,
            1, -3,
            1, 0,
            1, -1,
            4, -2, 2, 1, 0,
            2 + len(then), 1, len(then), *then,
        ])

    def test_the_smallest_lists(self):
        self.assertEqual(answers([1, 0, 0]), [2, 0, 0])
        self.assertEqual(answers([0, 0, 1, 0]), [1, 0])
        self.assertEqual(answers([3, 2, 0, 1, 0]), [1, -1])
        self.assertEqual(answers([3, 2, 0, 1, 1, 0]), [1, -1])

    def test_only_whole_numbers_are_given_back(self):
        given = answers(ALL)
        self.assertIs(type(given), list)
        self.assertEqual({type(number) for number in given}, {int})

    def test_what_is_handed_in_is_as_it_was(self):
        handed = list(ALL)
        answers(handed)
        self.assertEqual(handed, ALL)

    def test_what_is_handed_in_is_not_changed_for_a_while_either(self):
        class Watched(list):
            def refuse(self, *given):
                raise AssertionError("changed")
            __setitem__ = __delitem__ = __iadd__ = __imul__ = refuse
            append = extend = insert = pop = remove = clear = sort = reverse = refuse

        self.assertEqual(answers(Watched(ALL)), answers(ALL))

    def test_what_is_given_back_is_the_caller_s_own(self):
        given = answers(ALL)
        again = list(given)
        given.clear()
        self.assertEqual(answers(ALL), again)

    def test_a_second_time_knows_nothing_of_the_first(self):
        self.assertEqual(run(read(caption(1, 2, b"a"))), [[1]])
        self.assertEqual(run(text(), get(0), add(5, 6, b"b")), [[0, 0], [-4], [0]])
        self.assertEqual(run(add(5, 6, b"b"), text())[0], [0])

    def test_refusals_change_nothing(self):
        good = [read(caption(10, 20, b"a") + caption(15, 20, b"b")), add(12, 13, b"c")]
        refused = [read(b"00"), get(3), add(1, 1, b"x"), drop(3), move(3, 1), move(0, -11), shift(-11),
                   stretch(1, 100), stretch(0, 0)]
        self.assertEqual(run(*good, *refused)[2:], [[-2, 2, 1, 2], [-4], [-1], [-4], [-4], [-3], [-3], [-3], [-1]])
        self.assertEqual(shown(*good, *refused), shown(*good))

    def test_300_calls(self):
        calls = [add(1, 2, b"x"), drop(0), text()] * 100
        self.assertEqual(run(*calls), [[0], [0], [0, 0]] * 100)

    def test_as_long_as_it_may_be(self):
        rows = [caption(k, k + 1, *[b"x" * 80] * 4) for k in range(45)]
        data = b"".join(rows)
        handed = read(data) + text()
        self.assertTrue(15000 < len(handed) <= 16000)
        self.assertEqual(answers(handed), [1, 45, 2 + len(data), 45, len(data), *data])

    def test_as_many_calls_with_short_lines_as_fit(self):
        calls = [add(k, k + 1, b"y") for k in range(128)] + [text()]
        self.assertEqual(run(*calls)[-1][0], 128)


if __name__ == "__main__":
    unittest.main()

"""C2: wrapped, a caption has the same words, on as few lines as can be."""

import itertools
import unittest

from tests.helper import BIGGEST, caption, last, read, run, shown, wrap


def fewest(words, w):
    """As few lines as any way to part the words into rows within w bytes has."""
    best = [0]
    for end in range(1, len(words) + 1):
        best.append(min(best[k] + 1 for k in range(end) if len(b" ".join(words[k:end])) <= w))
    return best[-1]


class Wrap(unittest.TestCase):
    def assertWrapped(self, lines, w, wanted):
        with self.subTest(lines=lines, w=w):
            before = read(caption(5, 9, *lines))
            self.assertEqual(last(before, wrap(0, w)), [len(wanted)])
            self.assertEqual(shown(before, wrap(0, w)), caption(5, 9, *wanted))
            self.assertEqual(last(before, wrap(0, w), wrap(0, w)), [len(wanted)])
            self.assertEqual(shown(before, wrap(0, w), wrap(0, w)), caption(5, 9, *wanted))

    def assertRefused(self, lines, i, w, number):
        with self.subTest(lines=lines, i=i, w=w):
            data = caption(5, 9, *lines)
            self.assertEqual(last(read(data), wrap(i, w)), [number])
            self.assertEqual(shown(read(data), wrap(i, w)), data)

    def test_one_line_to_several(self):
        self.assertWrapped([b"one two three four"], 8, [b"one two", b"three", b"four"])
        self.assertWrapped([b"one two three four"], 10, [b"one two", b"three four"])

    def test_several_lines_to_one(self):
        self.assertWrapped([b"one", b"two", b"three"], 80, [b"one two three"])
        self.assertWrapped([b"one", b"two", b"three"], 13, [b"one two three"])

    def test_words_of_two_lines_come_onto_one(self):
        self.assertWrapped([b"one two", b"three four"], 13, [b"one two three", b"four"])
        self.assertWrapped([b"aaaa bb", b"cc dddd"], 5, [b"aaaa", b"bb cc", b"dddd"])

    def test_a_word_ends_with_its_line(self):
        self.assertWrapped([b"ab", b"cd"], 4, [b"ab", b"cd"])
        self.assertWrapped([b"ab", b"cd"], 5, [b"ab cd"])

    def test_several_blanks_between_words(self):
        self.assertWrapped([b"a  b   c"], 80, [b"a b c"])
        self.assertWrapped([b"a  b   c"], 3, [b"a b", b"c"])

    def test_blanks_at_a_line_s_beginning_and_end(self):
        self.assertWrapped([b"  a b"], 80, [b"a b"])
        self.assertWrapped([b"a b  "], 80, [b"a b"])
        self.assertWrapped([b" a ", b" b "], 80, [b"a b"])
        self.assertWrapped([b" a ", b" b "], 1, [b"a", b"b"])

    def test_a_line_of_blanks_among_others(self):
        self.assertWrapped([b"a", b"   ", b"b"], 80, [b"a b"])
        self.assertWrapped([b" ", b"a", b"b", b"  "], 1, [b"a", b"b"])

    def test_a_word_as_long_as_the_width(self):
        self.assertWrapped([b"abcde"], 5, [b"abcde"])
        self.assertWrapped([b"x abcde y"], 5, [b"x", b"abcde", b"y"])
        self.assertWrapped([b"x" * 80], 80, [b"x" * 80])

    def test_a_longer_word_is_cut(self):
        self.assertWrapped([b"abcdef"], 5, [b"abcde", b"f"])
        self.assertWrapped([b"abcdefghij"], 5, [b"abcde", b"fghij"])
        self.assertWrapped([b"abcdefghijk"], 5, [b"abcde", b"fghij", b"k"])
        self.assertWrapped([b"x" * 80], 79, [b"x" * 79, b"x"])
        self.assertWrapped([b"x" * 80], 10, [b"x" * 10] * 8)

    def test_what_is_left_has_the_next_words_behind_it(self):
        self.assertWrapped([b"abcdefg x y"], 5, [b"abcde", b"fg x", b"y"])
        self.assertWrapped([b"abcdefg xy z"], 5, [b"abcde", b"fg xy", b"z"])
        self.assertWrapped([b"abcdefg xyz"], 5, [b"abcde", b"fg", b"xyz"])
        self.assertWrapped([b"abcdefg", b"x"], 5, [b"abcde", b"fg x"])

    def test_a_cut_word_is_cut_from_its_own_beginning(self):
        self.assertWrapped([b"x abcdefg"], 5, [b"x", b"abcde", b"fg"])
        self.assertWrapped([b"abcdef ghijkl"], 5, [b"abcde", b"f", b"ghijk", b"l"])

    def test_just_the_width_and_one_more(self):
        self.assertWrapped([b"ab cd ef"], 8, [b"ab cd ef"])
        self.assertWrapped([b"ab cd ef"], 7, [b"ab cd", b"ef"])
        self.assertWrapped([b"ab cd ef"], 5, [b"ab cd", b"ef"])
        self.assertWrapped([b"ab cd ef"], 4, [b"ab", b"cd", b"ef"])
        self.assertWrapped([b"a" * 40, b"b" * 39], 80, [b"a" * 40 + b" " + b"b" * 39])
        self.assertWrapped([b"a" * 40, b"b" * 40], 80, [b"a" * 40, b"b" * 40])

    def test_to_1(self):
        self.assertWrapped([b"abc d"], 1, [b"a", b"b", b"c", b"d"])
        self.assertWrapped([b"a"], 1, [b"a"])
        self.assertRefused([b"abcdefghi"], 0, 1, -6)

    def test_to_80(self):
        self.assertWrapped([b"a b", b"c"], 80, [b"a b c"])
        self.assertWrapped([b"y" * 80] * 8, 80, [b"y" * 80] * 8)

    def test_a_width_out_of_its_range(self):
        for w in (0, 81, BIGGEST):
            self.assertRefused([b"ab cd"], 0, w, -1)

    def test_no_such_caption(self):
        self.assertEqual(run(wrap(0, 80)), [[-4]])
        self.assertRefused([b"a"], 1, 80, -4)
        self.assertRefused([b"a"], BIGGEST, 1, -4)

    def test_the_width_counts_before_the_number(self):
        self.assertEqual(run(wrap(0, 0), wrap(BIGGEST, 81)), [[-1], [-1]])
        self.assertRefused([b"a"], 1, BIGGEST, -1)
        self.assertRefused([b" "], 0, 0, -1)

    def test_no_words(self):
        self.assertRefused([b" "], 0, 80, -3)
        self.assertRefused([b"   ", b" ", b" " * 80], 0, 1, -3)
        self.assertRefused([b" "] * 8, 0, 40, -3)

    def test_8_lines_go_and_9_do_not(self):
        self.assertWrapped([b"a b c d e f g h"], 1, [b"a", b"b", b"c", b"d", b"e", b"f", b"g", b"h"])
        self.assertRefused([b"a b c d e f g h i"], 0, 1, -6)
        self.assertRefused([b"a b c d e f g h i"], 0, 2, -6)
        self.assertWrapped([b"a b c d e f g h i"], 3, [b"a b", b"c d", b"e f", b"g h", b"i"])
        self.assertWrapped([b"x" * 16], 2, [b"xx"] * 8)
        self.assertRefused([b"x" * 17], 0, 2, -6)
        self.assertRefused([b"x" * 80] * 8, 0, 79, -6)
        self.assertRefused([b"x" * 80] * 8, 0, 1, -6)

    def test_only_its_lines_are_changed(self):
        front, behind = caption(1, 50, b"a  b", b" c"), caption(9, 10, b"d  e", b"f ")
        data = front + caption(9, 30, b"g  h", b"i") + behind
        self.assertEqual(last(read(data), wrap(1, 3)), [2])
        self.assertEqual(shown(read(data), wrap(1, 3)), front + caption(9, 30, b"g h", b"i") + behind)
        self.assertEqual(shown(read(data), wrap(1, 80)), front + caption(9, 30, b"g h i") + behind)
        for call in (wrap(1, 0), wrap(3, 5)):
            self.assertEqual(shown(read(data), call), data)

    def test_what_is_read_behind_it_is_its_own(self):
        data = caption(1, 2, b"a b") + caption(1, 2, b"a b")
        self.assertEqual(shown(read(data), wrap(1, 1), wrap(0, 2)),
                         caption(1, 2, b"a", b"b") + caption(1, 2, b"a", b"b"))

    def test_the_same_words_on_as_few_lines_as_can_be(self):
        for lengths in itertools.product((1, 2, 3, 5), repeat=5):
            words = [b"%d" % k * n for k, n in enumerate(lengths)]
            before = read(caption(0, 1, b" ".join(words[:2]), b"  ".join(words[2:])))
            for w in (5, 6, 7, 9, 11):
                with self.subTest(lengths=lengths, w=w):
                    lines = shown(before, wrap(0, w)).split(b"\n")[1:-2]
                    self.assertEqual(b" ".join(lines), b" ".join(words))
                    self.assertLessEqual(max(map(len, lines)), w)
                    self.assertEqual(len(lines), fewest(words, w))


if __name__ == "__main__":
    unittest.main()

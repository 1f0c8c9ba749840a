"""C1: what is no text of captions is at fault, with a kind and a place."""

import unittest

from tests.helper import caption, last, many, read

GOOD = caption(0, 1000, b"ab", b"c")
WRONG_IN_TIMES = (0, 9, 11, 32, 44, 47, 59, 97, 127, 255)
WRONG_IN_LINES = (0, 9, 11, 13, 31, 127, 128, 255)
TO = 13
LINES = 26


class Faults(unittest.TestCase):
    def assertFault(self, data, kind, place):
        with self.subTest(data=data):
            self.assertEqual(last(read(data)), [-2, 2, kind, place])

    def assertFaultBehind(self, data, kind, place):
        """The same fault at the beginning and behind another caption."""
        self.assertFault(data, kind, place)
        self.assertFault(GOOD + data, kind, len(GOOD) + place)


class Form(Faults):
    def test_the_end_at_each_place(self):
        for place in range(1, len(GOOD)):
            self.assertFaultBehind(GOOD[:place], 1, place)

    def test_a_wrong_byte_at_each_place_of_the_times(self):
        for place, right in enumerate(GOOD[:LINES]):
            wrong = [byte for byte in (*WRONG_IN_TIMES, *b":.-\n") if byte != right]
            if right not in b"01":
                wrong += b"059"
            for byte in wrong:
                self.assertFaultBehind(GOOD[:place] + bytes([byte]) + GOOD[place + 1:], 1, place)

    def test_every_digit_may_stand_but_for_what_it_says(self):
        for digit in range(10):
            data = b"%d0:00:00.000-99:59:59.999\nx\n\n" % digit
            self.assertEqual(last(read(data)), [1])
            data = b"00:00:00.00%d-00:00:01.000\nx\n\n" % digit
            self.assertEqual(last(read(data)), [1])

    def test_a_byte_besides_the_digits(self):
        self.assertFault(b"/", 1, 0)
        self.assertFault(b":", 1, 0)

    def test_a_wrong_byte_at_each_place_of_the_lines(self):
        for place in range(LINES, len(GOOD) - 1):
            for byte in WRONG_IN_LINES:
                self.assertFaultBehind(GOOD[:place] + bytes([byte]) + GOOD[place + 1:], 1, place)

    def test_a_wrong_byte_where_the_empty_line_must_come(self):
        for byte in WRONG_IN_LINES:
            self.assertFault(GOOD[:-1] + bytes([byte]), 1, len(GOOD) - 1)
        self.assertFault(GOOD[:-1] + b"x", 1, len(GOOD))

    def test_an_empty_line_right_behind_the_times(self):
        self.assertFaultBehind(GOOD[:LINES] + b"\n", 1, LINES)
        self.assertFaultBehind(GOOD[:LINES] + b"\nx\n\n", 1, LINES)

    def test_a_line_too_many_between_captions(self):
        self.assertFault(b"\n", 1, 0)
        self.assertFault(GOOD + b"\n", 1, len(GOOD))
        self.assertFault(GOOD + b"\n" + GOOD, 1, len(GOOD))

    def test_a_line_ended_in_two_bytes(self):
        self.assertFault(GOOD.replace(b"\n", b"\r\n"), 1, LINES - 1)

    def test_one_digit_more_or_less(self):
        self.assertFault(b"0" + GOOD, 1, 2)
        self.assertFault(GOOD[1:], 1, 1)
        self.assertFault(GOOD[:12] + b"0" + GOOD[12:], 1, 12)


class Above59(Faults):
    def times(self, part, digits):
        """The good times, up to two digits at a place of minutes or seconds."""
        return b"00:00:00.000-50:00:00.000"[:part] + digits

    def test_of_both_times(self):
        for part in (3, 6, TO + 3, TO + 6):
            for digits in (b"60", b"61", b"69", b"70", b"99"):
                rest = b"00:00:00.000-50:00:00.000\nx\n\n"[part + 2:]
                self.assertFaultBehind(self.times(part, digits) + rest, 2, part)

    def test_59_is_none(self):
        self.assertEqual(last(read(b"00:59:59.000-01:59:59.000\nx\n\n")), [1])

    def test_a_wrong_byte_or_the_end_right_behind_the_two_digits(self):
        for part in (3, 6, TO + 3, TO + 6):
            self.assertFaultBehind(self.times(part, b"60"), 2, part)
            self.assertFaultBehind(self.times(part, b"60x"), 2, part)
            self.assertFaultBehind(self.times(part, b"99\n"), 2, part)
            self.assertFault(self.times(part, b"59x"), 1, part + 2)

    def test_the_second_digit_missing(self):
        for part in (3, 6, TO + 3, TO + 6):
            self.assertFaultBehind(self.times(part, b"6"), 1, part + 1)
            self.assertFaultBehind(self.times(part, b"6:"), 1, part + 1)
            self.assertFaultBehind(self.times(part, b"9x"), 1, part + 1)

    def test_the_first_of_two(self):
        self.assertFault(b"00:60:60.000-50:60:60.000\nx\n\n", 2, 3)
        self.assertFault(b"00:00:60.000-50:60:60.000\nx\n\n", 2, 6)

    def test_counts_before_the_whole_time_does(self):
        self.assertFault(b"01:00:00.000-00:60:00.000\nx\n\n", 2, TO + 3)
        self.assertFault(caption(5000, 6000, b"x") + b"00:00:60.000", 2, len(caption(5000, 6000, b"x")) + 6)


class NotLater(Faults):
    def test_equal_and_earlier(self):
        self.assertFault(caption(0, 0, b"x"), 3, TO)
        self.assertFault(caption(1000, 1000, b"x"), 3, TO)
        self.assertFault(caption(1000, 999, b"x"), 3, TO)
        self.assertFault(caption(359999999, 0, b"x"), 3, TO)
        self.assertFault(GOOD + caption(1000, 1000, b"x"), 3, len(GOOD) + TO)

    def test_behind_it_a_wrong_byte_or_the_end(self):
        self.assertFaultBehind(caption(2000, 2000, b"x")[:LINES - 1], 3, TO)
        self.assertFaultBehind(caption(2000, 2000, b"x")[:LINES - 1] + b"x", 3, TO)
        self.assertFaultBehind(caption(2000, 1999, b"x")[:LINES - 1] + b"\n\n", 3, TO)

    def test_only_when_the_digits_are_read_to_the_end(self):
        self.assertFaultBehind(caption(2000, 1000, b"x")[:LINES - 2], 1, LINES - 2)
        self.assertFaultBehind(caption(2000, 1000, b"x")[:LINES - 2] + b"x", 1, LINES - 2)


class OutOfOrder(Faults):
    FRONT = caption(5000, 9000, b"x")
    HERE = len(FRONT)

    def test_begins_earlier(self):
        self.assertFault(self.FRONT + caption(4999, 6000, b"y"), 4, self.HERE)
        self.assertFault(self.FRONT + caption(0, 9999, b"y"), 4, self.HERE)

    def test_the_one_in_front_counts_not_the_first(self):
        front = caption(1, 2, b"a") + self.FRONT
        self.assertFault(front + caption(4999, 6000, b"y"), 4, len(front))

    def test_begins_at_the_same_time(self):
        self.assertEqual(last(read(self.FRONT + caption(5000, 5001, b"y"))), [2])

    def test_behind_it_a_wrong_byte_or_the_end(self):
        early = caption(4999, 6000, b"y")
        for rest in (b"", b"x", b"\n", b"-x", b"-00:60", b"-00:00:00.000\n"):
            self.assertFault(self.FRONT + early[:12] + rest, 4, self.HERE)

    def test_only_when_the_digits_are_read_to_the_end(self):
        early = caption(4999, 6000, b"y")
        self.assertFault(self.FRONT + early[:11], 1, self.HERE + 11)
        self.assertFault(self.FRONT + early[:11] + b"x", 1, self.HERE + 11)


class TooMany(Faults):
    EIGHT = caption(0, 1000, *[b"abc"] * 8)[:-1]
    FULL = caption(0, 1000, b"x" * 80)[:-2]

    def test_a_ninth_line(self):
        self.assertFaultBehind(caption(0, 1000, *[b"abc"] * 9), 5, len(self.EIGHT))
        self.assertFaultBehind(caption(0, 1000, *[b"abc"] * 10), 5, len(self.EIGHT))

    def test_whatever_stands_behind_its_beginning(self):
        for rest in (b"", b"\n", b"\x00", b"\xff", b"y" * 90):
            self.assertFaultBehind(self.EIGHT + b" " + rest, 5, len(self.EIGHT))

    def test_no_ninth_line_begins_with_what_is_no_sign(self):
        for byte in WRONG_IN_LINES:
            self.assertFaultBehind(self.EIGHT + bytes([byte]), 1, len(self.EIGHT))
        self.assertFaultBehind(self.EIGHT, 1, len(self.EIGHT))
        self.assertEqual(last(read(self.EIGHT + b"\n")), [1])

    def test_an_81st_byte_of_a_line(self):
        place = len(self.FULL)
        for rest in (b"", b"\n\n", b"\x00", b"\xff", b"y" * 9):
            self.assertFaultBehind(self.FULL + b"~" + rest, 5, place)
            self.assertFaultBehind(self.FULL + b" " + rest, 5, place)

    def test_an_81st_byte_of_a_later_line(self):
        data = caption(0, 1000, *[b"a"] * 7, b"x" * 81)
        self.assertFaultBehind(data, 5, len(data) - 3)

    def test_80_signs_and_then_what_is_no_sign(self):
        for byte in WRONG_IN_LINES:
            self.assertFaultBehind(self.FULL + bytes([byte]) + b"\n\n", 1, len(self.FULL))
        self.assertFaultBehind(self.FULL, 1, len(self.FULL))

    def test_a_129th_caption(self):
        full = many(128)
        self.assertFault(many(129), 5, len(full))
        self.assertFault(many(140), 5, len(full))

    def test_whatever_byte_stands_behind_128_captions(self):
        full = many(128)
        for byte in range(256):
            self.assertFault(full + bytes([byte]), 5, len(full))

    def test_128_captions_and_then_the_end(self):
        self.assertEqual(last(read(many(128))), [128])
        self.assertFault(many(128)[:-1], 1, len(many(128)) - 1)


class FirstOfSeveral(Faults):
    def test_what_is_met_first(self):
        self.assertFault(b"00:00:00.000-00:00:00.000x", 3, TO)
        self.assertFault(GOOD + b"x" + caption(0, 0, b"y"), 1, len(GOOD))
        self.assertFault(caption(9, 9, b"") + caption(1, 2, b"y"), 3, TO)
        early = caption(7, 9, b"a") + caption(5, 5, b"b")
        self.assertFault(early, 4, len(caption(7, 9, b"a")))


if __name__ == "__main__":
    unittest.main()

"""Point 1: load, and what the document says of a text."""

import unittest

from tests.calls import add, ask, check_refused, check_step, hundred, line, load, seen

THERE = [add(7, 8, "there")]


class Lines(unittest.TestCase):
    def test_captions_take_the_place_of_all(self):
        text = "00:01.500 00:03.250 Hello, you.\n01:00.000 99:59.999 ~\n"
        captions = [(1500, 3250, "Hello, you."), (60000, 5999999, "~")]
        check_step(self, THERE, load(text), 2, captions)

    def test_empty_text(self):
        check_step(self, THERE, load(""), 0, [])
        check_step(self, [], load(""), 0, [])

    def test_only_empty_lines(self):
        check_step(self, THERE, load("\n"), 0, [])
        check_step(self, THERE, load("\n\n\n"), 0, [])

    def test_last_line_without_its_line_end(self):
        check_step(self, THERE, load(line(1, 2, "a") + line(3, 4, "b")[:-1]), 2, [(1, 2, "a"), (3, 4, "b")])

    def test_empty_lines_between_say_nothing(self):
        text = "\n" + line(1, 2, "a") + "\n\n" + line(3, 4, "b") + "\n"
        check_step(self, THERE, load(text), 2, [(1, 2, "a"), (3, 4, "b")])

    def test_empty_lines_count(self):
        check_refused(self, THERE, load("\n\n?\n"), -1003)
        check_refused(self, THERE, load(line(1, 2) + "\n\n" + line(3, 4) + "?"), -1005)

    def test_the_first_wrong_line_is_told(self):
        check_refused(self, THERE, load(line(1, 2) + "?\n" + line(3, 4) + "!\n"), -1002)
        check_refused(self, THERE, load("?"), -1001)

    def test_a_wrong_line_far_down(self):
        check_refused(self, THERE, load("\n" * 16383 + "?"), -17384)


class Order(unittest.TestCase):
    def test_by_beginning_then_end_then_as_told(self):
        text = line(5, 9, "a") + line(5, 7, "b") + line(1, 99, "c") + line(5, 9, "d") + line(5, 7, "e")
        captions = [(1, 99, "c"), (5, 7, "b"), (5, 7, "e"), (5, 9, "a"), (5, 9, "d")]
        check_step(self, THERE, load(text), 5, captions)

    def test_alike_in_time_what_they_say_does_not_count(self):
        check_step(self, THERE, load(line(5, 9, "z") + line(5, 9, "a")), 2, [(5, 9, "z"), (5, 9, "a")])

    def test_two_lines_alike_are_two_captions(self):
        check_step(self, THERE, load(line(5, 9, "a") * 2), 2, [(5, 9, "a"), (5, 9, "a")])


class Counts(unittest.TestCase):
    def test_16384_bytes(self):
        check_step(self, THERE, load("\n" * 16384), 0, [])

    def test_16385_bytes(self):
        check_refused(self, THERE, load("\n" * 16385), -22)

    def test_too_long_comes_before_a_wrong_line(self):
        check_refused(self, THERE, load("?" + "\n" * 16383), -1001)
        check_refused(self, THERE, load("?" + "\n" * 16384), -22)

    def test_a_hundred(self):
        self.assertEqual(ask(load(hundred())), [100])
        self.assertEqual(len(seen(load(hundred()))), 100)

    def test_the_101st_is_wrong(self):
        check_refused(self, THERE, load(hundred() + line(1, 2)), -1101)
        check_refused(self, THERE, load(hundred() + "\n\n" + line(1, 2)), -1103)

    def test_an_earlier_wrong_line_comes_before_the_101st(self):
        check_refused(self, THERE, load("?\n" + hundred() + line(1, 2)), -1001)

    def test_a_hundred_and_empty_lines(self):
        self.assertEqual(ask(load(hundred() + "\n\n")), [100])

    def test_a_hundred_in_the_place_of_a_hundred(self):
        self.assertEqual(ask(load(hundred()), load(hundred())), [100, 100])


class Times(unittest.TestCase):
    def right(self, text, begin, end):
        check_step(self, THERE, load(text), 1, [(begin, end, "x")])

    def wrong(self, text):
        check_refused(self, THERE, load(text), -1001)

    def test_each_digit_counts(self):
        self.right("12:34.567 98:59.012 x", 754567, 5939012)
        self.right("00:00.000 00:00.001 x", 0, 1)
        self.right("00:00.010 00:00.100 x", 10, 100)
        self.right("00:01.000 00:10.000 x", 1000, 10000)
        self.right("01:00.000 10:00.000 x", 60000, 600000)

    def test_seconds_of_59_and_60(self):
        self.right("00:59.000 01:59.000 x", 59000, 119000)
        self.wrong("00:60.000 01:59.000 x")
        self.wrong("00:59.000 01:60.000 x")
        self.wrong("00:59.000 01:99.000 x")

    def test_minutes_up_to_99(self):
        self.right("60:00.000 99:59.999 x", 3600000, 5999999)

    def test_times_that_do_not_rise(self):
        self.right("00:00.004 00:00.005 x", 4, 5)
        self.wrong("00:00.005 00:00.005 x")
        self.wrong("00:00.006 00:00.005 x")

    def test_every_place_has_its_sign(self):
        good = "00:10.000 00:20.000 x"
        self.right(good, 10000, 20000)
        for place in range(20):
            for sign in "/:;. ax-\t\r\0\xff\xb2":
                if sign != good[place]:
                    with self.subTest(place=place, sign=sign):
                        self.wrong(good[:place] + sign + good[place + 1:])

    def test_digits_where_none_belong(self):
        good = "00:10.000 00:20.000 x"
        for place in (2, 5, 9, 12, 15, 19):
            with self.subTest(place=place):
                self.wrong(good[:place] + "0" + good[place + 1:])

    def test_bytes_beside_the_digits(self):
        self.right("00:00.000 00:09.999 x", 0, 9999)
        self.wrong("00:00.00/ 00:09.999 x")
        self.wrong("00:00.000 00:09.99: x")

    def test_cut_lines(self):
        good = "00:10.000 00:20.000 x"
        for length in range(1, len(good)):
            with self.subTest(length=length):
                self.wrong(good[:length])

    def test_too_many_or_few_signs(self):
        self.wrong(" 00:10.000 00:20.000 x")
        self.wrong("00:10.000  00:20.000 x")
        self.wrong("00:10.000 00:20.000x")
        self.wrong("0:10.000 00:20.000 x")
        self.wrong("000:10.000 00:20.000 x")
        self.wrong("00:10.00 00:20.000 x")
        self.wrong("00:10.0000 00:20.000 x")


class Says(unittest.TestCase):
    def right(self, says):
        check_step(self, THERE, load(line(1, 2, says)), 1, [(1, 2, says)])

    def wrong(self, says):
        check_refused(self, THERE, load(line(1, 2, says)), -1001)

    def test_1_to_80_bytes(self):
        self.right("x")
        self.right("x" * 79)
        self.right("x" * 80)
        self.wrong("")
        self.wrong("x" * 81)

    def test_no_blank_first_or_last(self):
        self.right("a b  c")
        self.wrong(" a")
        self.wrong("a ")
        self.wrong(" ")
        self.wrong(" " + "x" * 79)
        self.wrong("x" * 79 + " ")

    def test_bytes_from_32_to_126(self):
        self.right("a b")
        self.right("!~")
        for sign in "\0\t\r\x1f\x7f\x80\xff":
            with self.subTest(sign=sign):
                self.wrong(sign)
                self.wrong("a" + sign)
                self.wrong("a" + sign + "b")

    def test_a_line_of_carriage_return_alone_is_wrong(self):
        check_refused(self, THERE, load("\r\n"), -1001)


if __name__ == "__main__":
    unittest.main()

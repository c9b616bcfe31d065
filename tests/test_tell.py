"""Point 7: tell, and how the document says that captions are written."""

import unittest

from tests.calls import add, back, check_answer, check_refused, counted, drop, fit, hundred, load, move, replies, tell, told


class Written(unittest.TestCase):
    def check_told(self, before, text):
        check_answer(self, before, tell(), counted(text))

    def test_no_captions(self):
        check_answer(self, [], tell(0), [0])
        check_answer(self, [], tell(4294967295), [0])
        check_answer(self, [add(1, 2), drop(0)], tell(0), [0])
        check_answer(self, [load("\n\n")], tell(5), [0])

    def test_byte_for_byte(self):
        numbers = [23, 48, 48, 58, 48, 48, 46, 48, 48, 49, 32, 48, 48, 58, 48, 48, 46, 48, 48, 50, 32, 72, 105, 10]
        check_answer(self, [add(1, 2, "Hi")], tell(23), numbers)

    def test_minutes_seconds_and_thousandths(self):
        for begin, end, text in (
            (0, 1, "00:00.000 00:00.001 x\n"),
            (9, 10, "00:00.009 00:00.010 x\n"),
            (99, 100, "00:00.099 00:00.100 x\n"),
            (999, 1000, "00:00.999 00:01.000 x\n"),
            (9999, 10000, "00:09.999 00:10.000 x\n"),
            (59999, 60000, "00:59.999 01:00.000 x\n"),
            (119999, 120000, "01:59.999 02:00.000 x\n"),
            (599999, 600000, "09:59.999 10:00.000 x\n"),
            (3599999, 3600000, "59:59.999 60:00.000 x\n"),
            (754567, 5939012, "12:34.567 98:59.012 x\n"),
            (5999998, 5999999, "99:59.998 99:59.999 x\n"),
            (0, 5999999, "00:00.000 99:59.999 x\n"),
        ):
            with self.subTest(text=text):
                self.check_told([add(begin, end)], text)

    def test_what_it_says(self):
        signs = "".join(map(chr, range(33, 113)))
        for says in ("!", "~", "a b  c", "00:00.001 00:00.002 x", signs, "p qrstuvwxyz{|}~", "\\n", "\"'"):
            with self.subTest(says=says):
                self.check_told([add(1, 2, says)], "00:00.001 00:00.002 " + says + "\n")

    def test_in_order(self):
        text = ("00:00.040 00:00.050 d\n" "00:00.010 00:00.030 c\n" "00:00.010 00:00.020 a\n" "00:00.010 00:00.020 b\n")
        there = ("00:00.010 00:00.020 a\n" "00:00.010 00:00.020 b\n" "00:00.010 00:00.030 c\n" "00:00.040 00:00.050 d\n")
        self.check_told([load(text)], there)
        self.check_told([add(40, 50, "d"), add(10, 30, "c"), add(10, 20, "a"), add(10, 20, "b")], there)

    def test_two_lines_alike(self):
        self.check_told([load("00:00.010 00:00.020 a\n" * 2)], "00:00.010 00:00.020 a\n" * 2)

    def test_empty_lines_and_a_missing_line_end_are_not_told(self):
        self.check_told([load("\n00:00.010 00:00.020 a\n\n00:00.030 00:00.040 b")],
                        "00:00.010 00:00.020 a\n00:00.030 00:00.040 b\n")

    def test_behind_each_kind_of_step(self):
        there = [load("00:00.010 00:00.020 a\n00:00.030 00:00.040 b\n")]
        self.check_told(there + [add(25, 26, "c")],
                        "00:00.010 00:00.020 a\n00:00.025 00:00.026 c\n00:00.030 00:00.040 b\n")
        self.check_told(there + [drop(0)], "00:00.030 00:00.040 b\n")
        self.check_told(there + [move((10, 60010))], "01:00.010 01:00.020 a\n01:00.030 01:00.040 b\n")
        self.check_told(there + [fit(10, 12)], "00:00.009 00:00.019 a\n00:00.031 00:00.041 b\n")
        self.check_told(there + [drop(0), back()], "00:00.010 00:00.020 a\n00:00.030 00:00.040 b\n")

    def test_a_hundred(self):
        self.check_told([load(hundred())], hundred())

    def test_a_hundred_as_long_as_can_be(self):
        calls = [add(5999998, 5999999, "x" * 80)] * 100
        text = ("99:59.998 99:59.999 " + "x" * 80 + "\n") * 100
        self.assertEqual(len(text), 10100)
        check_answer(self, calls, tell(10100), counted(text))
        check_refused(self, calls, tell(10099), -28)


class Most(unittest.TestCase):
    def test_just_as_many_and_one_less(self):
        there = [add(1, 2, "abc")]
        text = "00:00.001 00:00.002 abc\n"
        self.assertEqual(len(text), 24)
        check_answer(self, there, tell(24), counted(text))
        check_answer(self, there, tell(25), counted(text))
        check_answer(self, there, tell(4294967295), counted(text))
        check_refused(self, there, tell(23), -28)
        check_refused(self, there, tell(1), -28)
        check_refused(self, there, tell(0), -28)

    def test_of_several(self):
        there = [add(1, 2, "abc"), add(1, 2, "d"), add(3, 4, "x" * 80)]
        check_refused(self, there, tell(24 + 22 + 101 - 1), -28)
        self.assertEqual(replies(*there, tell(24 + 22 + 101))[-1][0], 147)

    def test_one_number_alone(self):
        self.assertEqual(replies(add(1, 2), tell(21), tell(22), tell(0))[1:],
                         [[-28], counted("00:00.001 00:00.002 x\n"), [-28]])


class Loaded(unittest.TestCase):
    """Told as a text and loaded it's the same."""

    def test_told_and_loaded(self):
        for calls in ([], [load(hundred())], [add(0, 1), add(0, 1)], [add(0, 5999999, "a  b"), add(59999, 60000, "~")],
                      [add(11, 21, "z"), add(10, 22, "a"), move((0, 0), (100, 10))], [load(hundred()), fit(59900, 100)],
                      [add(5999998, 5999999, "x" * 80)] * 100):
            text = told(*calls)
            with self.subTest(text=text[:40]):
                self.assertEqual(replies(load(text), tell())[0], [text.count("\n")])
                self.assertEqual(told(load(text)), text)


if __name__ == "__main__":
    unittest.main()

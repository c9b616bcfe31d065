"""Point 7: shown."""

import unittest

from tests.calls import add, back, check_answer, counted, drop, fit, load, move, replies, shown

THERE = [add(10, 20, "one"), add(15, 30, "two"), add(12, 17, "in"), add(50, 60, "a b")]
TOP = 4294967295


class Shown(unittest.TestCase):
    def check_shown(self, before, at, text):
        check_answer(self, before, shown(at), counted(text))

    def test_no_captions(self):
        for at in (0, 1, 5999999, 6000000, TOP):
            check_answer(self, [], shown(at), [0])

    def test_byte_for_byte(self):
        check_answer(self, [add(10, 20, "Hi")], shown(15), [3, 72, 105, 10])

    def test_from_its_beginning_till_before_its_end(self):
        there = [add(10, 20, "x")]
        for at, text in ((0, ""), (9, ""), (10, "x\n"), (11, "x\n"), (19, "x\n"), (20, ""), (21, "")):
            with self.subTest(at=at):
                self.check_shown(there, at, text)

    def test_one_that_lasts_for_one(self):
        there = [add(10, 11, "x")]
        for at, text in ((9, ""), (10, "x\n"), (11, "")):
            self.check_shown(there, at, text)

    def test_at_0_and_at_the_last_time(self):
        there = [add(0, 5999999, "x")]
        for at, text in ((0, "x\n"), (5999998, "x\n"), (5999999, ""), (6000000, ""), (6000001, ""), (TOP, "")):
            with self.subTest(at=at):
                self.check_shown(there, at, text)

    def test_several_in_order(self):
        for at, text in ((9, ""), (10, "one\n"), (11, "one\n"), (12, "one\nin\n"), (14, "one\nin\n"),
                         (15, "one\nin\ntwo\n"), (16, "one\nin\ntwo\n"), (17, "one\ntwo\n"), (19, "one\ntwo\n"),
                         (20, "two\n"), (29, "two\n"), (30, ""), (49, ""), (50, "a b\n"), (59, "a b\n"), (60, "")):
            with self.subTest(at=at):
                self.check_shown(THERE, at, text)

    def test_begin_at_once(self):
        there = [add(10, 30, "long"), add(10, 20, "short"), add(10, 20, "last")]
        self.check_shown(there, 10, "short\nlast\nlong\n")
        self.check_shown(there, 20, "long\n")

    def test_a_later_one_though_one_between_is_gone(self):
        there = [add(0, 100, "a"), add(10, 20, "b"), add(30, 40, "c")]
        self.check_shown(there, 35, "a\nc\n")
        self.check_shown(there, 25, "a\n")

    def test_one_follows_just_when_another_ends(self):
        there = [add(10, 20, "a"), add(20, 30, "b")]
        self.check_shown(there, 19, "a\n")
        self.check_shown(there, 20, "b\n")

    def test_two_alike(self):
        self.check_shown([add(1, 2, "x")] * 2, 1, "x\nx\n")

    def test_a_hundred_at_once(self):
        self.check_shown([add(3, 9, "x" * 80)] * 100, 5, ("x" * 80 + "\n") * 100)

    def test_behind_each_kind_of_step(self):
        self.check_shown(THERE + [drop(0)], 15, "in\ntwo\n")
        self.check_shown(THERE + [move((0, 100))], 115, "one\nin\ntwo\n")
        self.check_shown(THERE + [move((0, 100))], 15, "")
        self.check_shown(THERE + [drop(0), back()], 15, "one\nin\ntwo\n")
        self.check_shown(THERE + [load("00:00.015 00:00.016 new")], 15, "new\n")
        self.check_shown([add(10, 20, "a"), add(14, 24, "b"), fit(1, 0)], 16, "a\n")
        self.check_shown([add(10, 20, "a"), add(14, 24, "b"), fit(1, 0)], 17, "b\n")

    def test_one_call_behind_another(self):
        self.assertEqual(replies(*THERE, shown(10), shown(0), shown(50))[4:], [counted("one\n"), [0], counted("a b\n")])


if __name__ == "__main__":
    unittest.main()

"""Point 2: add."""

import unittest

from tests.calls import add, ask, check_refused, check_step, drop, hundred, line, load, seen

THERE = [load(line(10, 20, "a") + line(10, 30, "b") + line(40, 50, "c"))]
A, B, C = (10, 20, "a"), (10, 30, "b"), (40, 50, "c")


class Place(unittest.TestCase):
    def test_the_first(self):
        check_step(self, [], add(3, 4, "new"), 0, [(3, 4, "new")])

    def test_before_all_between_and_behind_all(self):
        check_step(self, THERE, add(9, 99, "new"), 0, [(9, 99, "new"), A, B, C])
        check_step(self, THERE, add(30, 31, "new"), 2, [A, B, (30, 31, "new"), C])
        check_step(self, THERE, add(41, 42, "new"), 3, [A, B, C, (41, 42, "new")])

    def test_begins_alike_by_end(self):
        check_step(self, THERE, add(10, 19, "new"), 0, [(10, 19, "new"), A, B, C])
        check_step(self, THERE, add(10, 21, "new"), 1, [A, (10, 21, "new"), B, C])
        check_step(self, THERE, add(10, 31, "new"), 2, [A, B, (10, 31, "new"), C])

    def test_alike_in_time_behind_those_there(self):
        check_step(self, THERE, add(10, 20, "new"), 1, [A, (10, 20, "new"), B, C])
        check_step(self, THERE, add(40, 50, "A"), 3, [A, B, C, (40, 50, "A")])

    def test_alike_altogether(self):
        self.assertEqual(ask(add(5, 6), add(5, 6), add(5, 6)), [0, 1, 2])
        self.assertEqual(seen(add(5, 6), add(5, 6)), [(5, 6, "x")] * 2)


class Refused(unittest.TestCase):
    def test_till_above_from(self):
        check_step(self, [], add(5, 6), 0, [(5, 6, "x")])
        check_step(self, [], add(0, 1), 0, [(0, 1, "x")])
        check_refused(self, THERE, add(5, 5), -22)
        check_refused(self, THERE, add(0, 0), -22)
        check_refused(self, THERE, add(6, 5), -22)

    def test_till_below_6000000(self):
        check_step(self, [], add(0, 5999999), 0, [(0, 5999999, "x")])
        check_step(self, [], add(5999998, 5999999), 0, [(5999998, 5999999, "x")])
        check_refused(self, THERE, add(0, 6000000), -22)
        check_refused(self, THERE, add(5999999, 6000000), -22)
        check_refused(self, THERE, add(4294967294, 4294967295), -22)

    def test_what_it_can_say(self):
        for says in ("x", "x" * 80, "a b", "!~", "0"):
            with self.subTest(says=says):
                check_step(self, [], add(5, 6, says), 0, [(5, 6, says)])
        for says in ("", "x" * 81, "x" * 100, " ", " a", "a ", "a\x1f", "a\x7f", "\x7f", "a\nb", "\n", "\0", "\xff"):
            with self.subTest(says=says):
                check_refused(self, THERE, add(5, 6, says), -22)

    def test_the_101st(self):
        full = load(hundred())
        check_refused(self, [full], add(5, 6), -12)
        self.assertEqual(ask(full, drop(99), add(5999998, 5999999), add(5, 6)), [100, 99, 99, -12])

    def test_what_is_not_allowed_comes_before_no_room(self):
        full = load(hundred())
        check_refused(self, [full], add(6, 6), -22)
        check_refused(self, [full], add(6, 6000000), -22)
        check_refused(self, [full], add(5, 6, ""), -22)

    def test_a_hundred_one_by_one(self):
        calls = [add(1000 - k, 2000) for k in range(101)]
        self.assertEqual(ask(*calls), [0] * 100 + [-12])


if __name__ == "__main__":
    unittest.main()

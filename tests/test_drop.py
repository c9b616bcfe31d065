"""Point 3: drop."""

import unittest

from tests.calls import add, ask, check_refused, check_step, drop, hundred, line, load

THERE = [load(line(10, 20, "a") + line(10, 30, "b") + line(40, 50, "c"))]
A, B, C = (10, 20, "a"), (10, 30, "b"), (40, 50, "c")


class Drop(unittest.TestCase):
    def test_each(self):
        check_step(self, THERE, drop(0), 2, [B, C])
        check_step(self, THERE, drop(1), 2, [A, C])
        check_step(self, THERE, drop(2), 2, [A, B])

    def test_the_only_one(self):
        check_step(self, [add(1, 2)], drop(0), 0, [])

    def test_there_is_none(self):
        check_refused(self, [], drop(0), -2)
        check_refused(self, THERE, drop(3), -2)
        check_refused(self, THERE, drop(4294967295), -2)

    def test_numbers_close_up(self):
        self.assertEqual(ask(*THERE, drop(0), drop(0), drop(0), drop(0)), [3, 2, 1, 0, -2])

    def test_of_two_alike_the_one_with_that_number(self):
        there = [add(1, 2, "a"), add(1, 2, "b")]
        check_step(self, there, drop(0), 1, [(1, 2, "b")])
        check_step(self, there, drop(1), 1, [(1, 2, "a")])

    def test_the_last_of_a_hundred(self):
        self.assertEqual(ask(load(hundred()), drop(100), drop(99), drop(99)), [100, -2, 99, -2])


if __name__ == "__main__":
    unittest.main()

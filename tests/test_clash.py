"""Point 7: clash, and what the document says of captions that clash."""

import unittest

from tests.calls import add, ask, back, check_answer, clash, drop, fit, hundred, line, load, move


class Clash(unittest.TestCase):
    def check_clash(self, before, number):
        check_answer(self, before, clash(), [number])

    def test_none(self):
        self.check_clash([], -2)
        self.check_clash([add(0, 5999999)], -2)
        self.check_clash([add(1, 2), add(5, 9)], -2)
        self.check_clash([load(hundred())], -2)
        self.check_clash([load("")], -2)

    def test_begins_just_when_the_one_before_ends(self):
        self.check_clash([add(10, 20), add(20, 30)], -2)
        self.check_clash([add(10, 20), add(19, 30)], 1)
        self.check_clash([add(10, 20), add(21, 30)], -2)
        self.check_clash([add(0, 1), add(1, 2), add(2, 3)], -2)

    def test_within_another(self):
        self.check_clash([add(10, 50), add(20, 30)], 1)
        self.check_clash([add(10, 50), add(20, 50)], 1)
        self.check_clash([add(10, 50), add(49, 50)], 1)
        self.check_clash([add(1, 2), add(10, 50), add(20, 30)], 2)

    def test_before_an_earlier_one_has_ended_though_the_one_next_to_it_has(self):
        there = [add(0, 100, "a"), add(10, 20, "b"), add(30, 40, "c")]
        # The one within is the first; c clashes with a alone, which shows when b is dropped or c is all that's left.
        self.check_clash(there, 1)
        self.check_clash(there + [drop(1)], 1)
        self.check_clash(there + [drop(0)], -2)
        self.check_clash(there + [add(100, 110, "d"), drop(1), drop(1)], -2)

    def test_begin_at_once(self):
        self.check_clash([add(10, 20), add(10, 30)], 1)
        self.check_clash([add(10, 20), add(10, 20)], 1)
        self.check_clash([add(0, 1), add(0, 2)], 1)
        self.check_clash([add(1, 2), add(10, 11), add(10, 11), add(10, 12)], 2)

    def test_the_first_of_several(self):
        self.check_clash([add(0, 5), add(5, 9), add(8, 12), add(11, 13), add(12, 20)], 2)

    def test_the_last_of_a_hundred(self):
        self.check_clash([load(hundred()), drop(99), add(984, 990)], 99)
        self.check_clash([load(hundred()), drop(99), add(985, 990)], -2)

    def test_behind_each_kind_of_step(self):
        there = [load(line(10, 20, "a") + line(14, 24, "b"))]
        self.check_clash(there, 1)
        self.check_clash(there + [fit(1, 0)], -2)
        self.check_clash(there + [fit(1, 0), back()], 1)
        self.check_clash(there + [drop(0)], -2)
        self.check_clash(there + [move((0, 7))], 1)
        self.check_clash(there + [load(line(1, 2))], -2)

    def test_times_that_come_together(self):
        # A tenth of each: 10 to 14 and 14 to 24 go to 1 to 1.4 and 1.4 to 2.4, which is nothing for the first.
        self.assertEqual(ask(add(10, 14), add(14, 24), move((0, 0), (100, 10)), clash()), [0, 1, -33, -2])
        self.assertEqual(ask(add(10, 15), add(16, 25), clash(), move((0, 0), (100, 10)), clash()), [0, 1, -2, 2, -2])
        self.assertEqual(ask(add(11, 19), add(19, 29), clash(), move((0, 0), (100, 10)), clash()), [0, 1, -2, 2, -2])


if __name__ == "__main__":
    unittest.main()

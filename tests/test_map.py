"""Point 4: map, and how the document says that a time goes."""

import unittest
from fractions import Fraction
from itertools import combinations
from math import floor

from captiondesk.anchors import goes_to
from tests.calls import add, ask, check_refused, check_step, line, load, move, seen

THERE = [load(line(10, 20, "a") + line(100, 200, "b"))]


def plain_way(time, anchors):
    """Where a time goes, with fractions and from the last pair of neighbours down."""
    if not anchors:
        return time
    if len(anchors) == 1:
        return time - anchors[0][0] + anchors[0][1]
    pairs = list(zip(anchors, anchors[1:]))
    fitting = [pair for pair in pairs if pair[0][0] <= time] or pairs[:1]
    (a, x), (b, y) = fitting[-1]
    return floor(x + Fraction((time - a) * (y - x), b - a) + Fraction(1, 2))


class Goes(unittest.TestCase):
    def test_no_anchor(self):
        check_step(self, THERE, move(), 2, [(10, 20, "a"), (100, 200, "b")])
        check_step(self, [], move(), 0, [])

    def test_one_anchor(self):
        check_step(self, THERE, move((50, 57)), 2, [(17, 27, "a"), (107, 207, "b")])
        check_step(self, THERE, move((57, 50)), 2, [(3, 13, "a"), (93, 193, "b")])
        check_step(self, THERE, move((0, 0)), 2, [(10, 20, "a"), (100, 200, "b")])

    def test_two_anchors(self):
        # Before the first, between, and behind the last, all by the same two.
        check_step(self, THERE, move((20, 50), (100, 210)), 2, [(30, 50, "a"), (210, 410, "b")])

    def test_more_anchors(self):
        # 10: before the first; 20 and 100: at an anchor; 200: behind the last.
        anchors = ((20, 100), (60, 120), (100, 320))
        check_step(self, THERE, move(*anchors), 2, [(95, 100, "a"), (320, 820, "b")])

    def test_between_each_two_neighbours(self):
        anchors = [(10, 100), (20, 300), (40, 320), (50, 420)]
        ways = {0: -100, 9: 80, 10: 100, 11: 120, 19: 280, 20: 300, 21: 301, 39: 319, 40: 320, 41: 330, 50: 420, 51: 430}
        for time, there in ways.items():
            with self.subTest(time=time):
                self.assertEqual(goes_to(time, anchors), there)

    def test_a_half_goes_up(self):
        # Thirds and halves: 0, 0.5, 1, 1.5 ..
        halves = [(0, 10), (10, 15)]
        self.assertEqual([goes_to(time, halves) for time in range(6)], [10, 11, 11, 12, 12, 13])
        thirds = [(0, 10), (9, 13)]
        self.assertEqual([goes_to(time, thirds) for time in range(6)], [10, 10, 11, 11, 11, 12])

    def test_a_half_goes_up_below_0_too(self):
        halves = [(10, 1), (20, 6)]
        # 10 goes to 1; 7 to -0.5, 6 to -1, 5 to -1.5.
        self.assertEqual([goes_to(time, halves) for time in (10, 9, 8, 7, 6, 5)], [1, 1, 0, 0, -1, -1])
        check_step(self, [add(7, 12)], move(*halves), 1, [(0, 2, "x")])
        check_refused(self, [add(6, 12)], move(*halves), -33)

    def test_against_fractions(self):
        sources = list(combinations(range(0, 9, 2), 3))
        targets = list(combinations((0, 1, 3, 7, 8), 3))
        for source in sources:
            for target in targets:
                anchors = list(zip(source, target))
                for few in (anchors, anchors[:2], anchors[1:], anchors[1:2], []):
                    for time in range(12):
                        self.assertEqual(goes_to(time, few), plain_way(time, few), (time, few))

    def test_large_times(self):
        anchors = [(0, 0), (5999998, 5999997), (5999999, 5999999)]
        for time in (0, 1, 2999998, 2999999, 3000000, 5999997, 5999998, 5999999):
            self.assertEqual(goes_to(time, anchors), plain_way(time, anchors), time)
        self.assertEqual(goes_to(5999999, [(0, 0), (1, 5999999)]), 5999999 * 5999999)


class Order(unittest.TestCase):
    def test_beginnings_that_come_together(self):
        there = [add(10, 30, "long"), add(11, 20, "short")]
        # A tenth of each: both begin at 1, so that the shorter one comes first.
        check_step(self, there, move((0, 0), (100, 10)), 2, [(1, 2, "short"), (1, 3, "long")])

    def test_alike_behind_the_map_they_stay_as_they_stood(self):
        there = [add(11, 21, "b"), add(10, 22, "a")]
        check_step(self, there, move((0, 0), (100, 10)), 2, [(1, 2, "a"), (1, 2, "b")])
        there = [add(12, 22, "a"), add(11, 21, "z"), add(10, 20, "b")]
        check_step(self, there, move((0, 0), (100, 10)), 3, [(1, 2, "b"), (1, 2, "z"), (1, 2, "a")])

    def test_the_new_order_numbers_them(self):
        there = [add(10, 30, "long"), add(11, 20, "short")]
        self.assertEqual(ask(*there, move((0, 0), (100, 10)), add(1, 2), add(1, 3)), [0, 1, 2, 1, 3])


class Anchors(unittest.TestCase):
    def test_16_and_17(self):
        anchors = [(k, k + 1) for k in range(17)]
        check_step(self, THERE, move(*anchors[:16]), 2, [(11, 21, "a"), (101, 201, "b")])
        check_refused(self, THERE, move(*anchors), -22)
        check_refused(self, [], move(*anchors), -22)

    def test_times_below_6000000(self):
        check_step(self, [], move((5999999, 0)), 0, [])
        check_step(self, [], move((0, 5999999)), 0, [])
        check_step(self, [], move((0, 0), (5999999, 5999999)), 0, [])
        check_refused(self, [], move((6000000, 0)), -22)
        check_refused(self, [], move((0, 6000000)), -22)
        check_refused(self, [], move((0, 0), (6000000, 5999999)), -22)
        check_refused(self, [], move((0, 0), (5999999, 6000000)), -22)
        check_refused(self, THERE, move((4294967295, 4294967295)), -22)

    def test_they_rise(self):
        check_step(self, [], move((4, 4), (5, 5), (6, 6)), 0, [])
        check_refused(self, THERE, move((4, 4), (4, 5)), -22)
        check_refused(self, THERE, move((4, 4), (5, 4)), -22)
        check_refused(self, THERE, move((5, 4), (4, 5)), -22)
        check_refused(self, THERE, move((4, 5), (5, 4)), -22)
        check_refused(self, THERE, move((4, 4), (5, 5), (5, 6)), -22)
        check_refused(self, THERE, move((4, 4), (5, 5), (6, 5)), -22)
        check_refused(self, THERE, move((4, 4), (4, 5), (6, 6)), -22)

    def test_what_is_not_allowed_comes_before_what_cannot_be(self):
        there = [add(0, 5999999)]
        check_refused(self, there, move((1, 0)), -33)
        check_refused(self, there, move((1, 0), (1, 1)), -22)
        check_refused(self, there, move((6000000, 0)), -22)


class CannotBe(unittest.TestCase):
    def test_below_0(self):
        check_step(self, THERE, move((10, 0)), 2, [(0, 10, "a"), (90, 190, "b")])
        check_refused(self, THERE, move((11, 0)), -33)
        check_refused(self, THERE, move((30, 0)), -33)

    def test_too_late(self):
        check_step(self, THERE, move((200, 5999999)), 2, [(5999809, 5999819, "a"), (5999899, 5999999, "b")])
        check_refused(self, THERE, move((199, 5999999)), -33)
        check_refused(self, THERE, move((99, 5999999)), -33)

    def test_an_end_not_later(self):
        check_step(self, [add(14, 15)], move((0, 0), (100, 10)), 1, [(1, 2, "x")])
        check_refused(self, [add(15, 16)], move((0, 0), (100, 10)), -33)

    def test_one_of_several(self):
        # The one in the middle, and only that, would last for nothing.
        there = [add(0, 10, "a"), add(15, 16, "b"), add(30, 40, "c")]
        check_refused(self, there, move((0, 0), (100, 10)), -33)

    def test_only_the_last_in_order_is_in_the_way(self):
        check_refused(self, [add(0, 5999999, "a"), add(1, 2, "b")], move((0, 1)), -33)
        check_refused(self, [add(0, 1, "a"), add(5, 5999999, "b")], move((0, 1)), -33)

    def test_no_captions_no_hindrance(self):
        check_step(self, [], move((5999999, 0)), 0, [])

    def test_what_they_say_goes_along(self):
        self.assertEqual(seen(*THERE, move((0, 1)), move((1, 0))), [(10, 20, "a"), (100, 200, "b")])


if __name__ == "__main__":
    unittest.main()

"""Point 5: fit, and what the document says of fitted times."""

import unittest
from itertools import combinations_with_replacement, product

from captiondesk.fitting import fit_times
from tests.calls import add, ask, check_refused, check_step, desk_after, fit, hundred, line, load, seen

END = 6000000


def may_be(times, lasts, gap):
    """Whether times keep to what's asked of fitted ones, word by word."""
    if any(time < 0 or time >= END for time in times):
        return False
    for k in range(0, len(times), 2):
        if times[k + 1] < times[k] + lasts:
            return False
        if k > 0 and times[k] < times[k - 1] + gap:
            return False
    return True


def searched(wishes, lasts, gap, window):
    """The fitted times and the least greatest shift, by going through all times within a window."""
    found = []
    # lasts and gap aren't below 0, so times that may be never fall.
    for times in combinations_with_replacement(window, len(wishes)):
        if may_be(times, lasts, gap):
            shifts = [abs(time - wish) for time, wish in zip(times, wishes)]
            # Least greatest shift first; of these the first time as near as can be, then the second, and so on.
            found.append((max(shifts), shifts, list(times)))
    least = min(found)
    assert [other[2] for other in found if other[:2] == least[:2]] == [least[2]]
    return (least[2], least[0])


def wished(most, count):
    """All lists of the times of so many captions in order, below a bound."""
    one = [(begin, end) for begin in range(most) for end in range(begin + 1, most)]
    for captions in product(one, repeat=count):
        if list(captions) == sorted(captions):
            yield [time for caption in captions for time in caption]


class Search(unittest.TestCase):
    def held_against(self, wishes, lasts, gap, window):
        self.assertEqual(fit_times(wishes, lasts, gap), searched(wishes, lasts, gap, window), (wishes, lasts, gap))

    def test_one_caption(self):
        for wishes in wished(6, 1):
            for lasts in range(1, 9):
                self.held_against(wishes, lasts, 3, range(18))

    def test_two_captions(self):
        for wishes in wished(6, 2):
            for lasts, gap in ((1, 0), (1, 2), (2, 0), (2, 1), (3, 1), (1, 5)):
                self.held_against(wishes, lasts, gap, range(14))

    def test_three_captions(self):
        for wishes in wished(4, 3):
            for lasts, gap in ((1, 0), (2, 0), (1, 1)):
                self.held_against(wishes, lasts, gap, range(11))

    def test_at_the_end_of_all_times(self):
        window = range(END - 14, END)
        for wishes in wished(6, 2):
            for lasts, gap in ((1, 0), (2, 1), (1, 2), (3, 1), (1, 5)):
                self.held_against([END - 6 + wish for wish in wishes], lasts, gap, window)


class Fit(unittest.TestCase):
    def test_no_captions(self):
        check_step(self, [], fit(1, 0), 0, [])
        check_step(self, [], fit(5999999, 5999999), 0, [])

    def test_what_fits_stays(self):
        there = [add(0, 10, "a"), add(12, 22, "b")]
        check_step(self, there, fit(10, 2), 0, [(0, 10, "a"), (12, 22, "b")])
        check_step(self, there, fit(1, 0), 0, [(0, 10, "a"), (12, 22, "b")])

    def test_too_short(self):
        # Four are missing: two at each side.
        check_step(self, [add(10, 16)], fit(10, 0), 2, [(8, 18, "x")])
        # Five are missing: the beginning, being first, stays the nearer.
        check_step(self, [add(10, 15)], fit(10, 0), 3, [(8, 18, "x")])

    def test_too_short_at_the_beginning(self):
        check_step(self, [add(0, 6)], fit(10, 0), 4, [(0, 10, "x")])
        check_step(self, [add(1, 7)], fit(10, 0), 3, [(0, 10, "x")])

    def test_too_short_at_the_end(self):
        check_step(self, [add(5999993, 5999999)], fit(10, 0), 4, [(5999989, 5999999, "x")])

    def test_overlap(self):
        there = [add(100, 210, "a"), add(200, 300, "b")]
        check_step(self, there, fit(1, 0), 5, [(100, 205, "a"), (205, 300, "b")])
        check_step(self, there, fit(1, 3), 7, [(100, 204, "a"), (207, 300, "b")])

    def test_within_another(self):
        there = [add(100, 200, "out"), add(140, 160, "in")]
        # out ends at 170 at the earliest, in at 190 at the latest, with a shift of 30.
        check_step(self, there, fit(20, 0), 30, [(100, 170, "out"), (170, 190, "in")])
        check_step(self, there, fit(5, 0), 30, [(100, 170, "out"), (170, 175, "in")])

    def test_two_that_begin_at_once(self):
        there = [add(100, 150, "a"), add(100, 200, "b")]
        check_step(self, there, fit(10, 0), 25, [(100, 125, "a"), (125, 200, "b")])
        check_step(self, there, fit(50, 2), 26, [(74, 124, "a"), (126, 200, "b")])

    def test_two_alike(self):
        there = [add(100, 150, "a"), add(100, 150, "b")]
        check_step(self, there, fit(10, 0), 25, [(100, 125, "a"), (125, 150, "b")])

    def test_what_comes_later_gives_way_no_more_than_it_must(self):
        # A large shift in the front leaves those behind, which fit, as they were.
        there = [add(0, 1, "a"), add(500, 600, "b"), add(600, 700, "c")]
        check_step(self, there, fit(100, 0), 99, [(0, 100, "a"), (500, 600, "b"), (600, 700, "c")])

    def test_what_comes_earlier_makes_room(self):
        there = [add(5999980, 5999998, "a"), add(5999998, 5999999, "b")]
        check_step(self, there, fit(5, 0), 4, [(5999980, 5999994, "a"), (5999994, 5999999, "b")])

    def test_all_pushed_on(self):
        there = [add(0, 10, "a"), add(1, 11, "b"), add(2, 12, "c")]
        check_step(self, there, fit(10, 0), 18, [(0, 10, "a"), (10, 20, "b"), (20, 30, "c")])

    def test_no_time_but_one_for_each(self):
        # 12 from the first to the last, where 2 are wished: 5 at each side.
        there = [add(20, 21, "a"), add(21, 22, "b")]
        check_step(self, there, fit(5, 2), 5, [(15, 20, "a"), (22, 27, "b")])

    def test_the_earlier_time_is_the_nearer_one(self):
        # b needs a shift of 30; with that a, which needs but 25, has its end go 30 so that its beginning goes 20.
        there = [add(100, 110, "a"), add(1000, 1001, "b")]
        check_step(self, there, fit(60, 0), 30, [(80, 140, "a"), (971, 1031, "b")])


class Refused(unittest.TestCase):
    def test_lasts(self):
        there = [add(10, 20)]
        check_refused(self, there, fit(0, 0), -22)
        check_refused(self, [], fit(0, 0), -22)
        check_step(self, there, fit(1, 0), 0, [(10, 20, "x")])
        check_step(self, there, fit(5999999, 0), 5999979, [(0, 5999999, "x")])
        check_refused(self, there, fit(6000000, 0), -22)
        check_refused(self, [], fit(6000000, 0), -22)
        check_refused(self, [], fit(4294967295, 0), -22)

    def test_gap(self):
        there = [add(10, 20)]
        check_step(self, there, fit(1, 0), 0, [(10, 20, "x")])
        check_step(self, there, fit(1, 5999999), 0, [(10, 20, "x")])
        check_refused(self, there, fit(1, 6000000), -22)
        check_refused(self, [], fit(1, 6000000), -22)
        check_refused(self, [], fit(1, 4294967295), -22)

    def test_a_fit_that_cannot_be(self):
        there = [add(10, 20, "a"), add(30, 40, "b")]
        check_step(self, there, fit(2000000, 1999999), 5999959, [(0, 2000000, "a"), (3999999, 5999999, "b")])
        check_refused(self, there, fit(2000000, 2000000), -33)
        check_refused(self, there, fit(3000000, 0), -33)
        check_refused(self, there, fit(1, 5999998), -33)

    def test_a_fit_of_a_hundred_that_cannot_be(self):
        full = load(hundred())
        # 100 times 59,901 and 99 times 100 are 6,000,000, one too many.
        self.assertEqual(ask(full, fit(59901, 100)), [100, -33])
        self.assertGreater(ask(full, fit(59900, 100))[1], 0)
        check_refused(self, [full], fit(59901, 100), -33)

    def test_what_is_not_allowed_comes_before_what_cannot_be(self):
        there = [add(10, 20, "a"), add(30, 40, "b")]
        check_refused(self, there, fit(5999999, 5999999), -33)
        check_refused(self, there, fit(6000000, 5999999), -22)
        check_refused(self, there, fit(5999999, 6000000), -22)
        check_refused(self, there, fit(0, 5999999), -22)


class Holds(unittest.TestCase):
    """Fitted none clash, each lasts as long as told, and fitted again nothing changes."""

    TEXTS = (
        hundred(),
        "".join(line(5, 6, f"n{k}") for k in range(100)),
        "".join(line(k, 5999999 - k, f"n{k}") for k in range(100)),
        "".join(line(5999899 + k, 5999999, f"n{k}") for k in range(100)),
        "".join(line(k * k * 7 % 1000, k * k * 7 % 1000 + 1 + k * 31 % 400, f"n{k}") for k in range(100)),
    )

    def test_fitted_and_fitted_again(self):
        for text in self.TEXTS:
            for lasts, gap in ((1, 0), (1, 1), (700, 40), (1500, 0), (59900, 100)):
                once = seen(load(text), fit(lasts, gap))
                times = [time for begin, end, says in once for time in (begin, end)]
                self.assertTrue(may_be(times, lasts, gap))
                self.assertEqual([says for _, _, says in once], [says for _, _, says in seen(load(text))])
                check_step(self, [load(text), fit(lasts, gap)], fit(lasts, gap), 0, once)

    def test_the_shift_that_is_answered_is_the_greatest(self):
        for text in self.TEXTS:
            wishes = desk_after(load(text)).captions
            fitted = desk_after(load(text), fit(700, 40)).captions
            shifts = [abs(was[k] - now[k]) for was, now in zip(wishes, fitted) for k in (0, 1)]
            self.assertEqual(ask(load(text), fit(700, 40))[-1], max(shifts))

    def test_what_they_say_stays_with_them(self):
        there = [add(5, 6, "b"), add(4, 9, "a"), add(5, 7, "c")]
        self.assertEqual([says for _, _, says in seen(*there, fit(3, 1))], ["a", "b", "c"])


if __name__ == "__main__":
    unittest.main()

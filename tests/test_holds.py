"""What holds over the whole program, a to e, over drawn lists of calls.

The lists are drawn by a source with a written seed, so that they are the same each time.
"""

import re
import unittest
from random import Random

from captiondesk.captions import answers
from tests.calls import (add, back, clash, drop, fit, hundred, line, load, move, replies, shown, strung, tell, text_of,
                         told)

END = 6000000
TOP = 4294967295
STEPS = (0, 1, 2, 3, 4)
FIT = 4
BACK = 5
LISTS = 150
TIME = r"(\d\d):([0-5]\d)\.(\d\d\d)"
LINE = re.compile(TIME + " " + TIME + r" ([!-~](?:[ -~]{0,78}[!-~])?)")


def read(text):
    """The captions of a told text, by a reader of the tests' own; it takes no line but one that tells a caption."""
    assert text == "" or text.endswith("\n"), text
    captions = []
    for row in text.split("\n")[:-1]:
        found = LINE.fullmatch(row)
        assert found, row
        numbers = [int(number) for number in found.groups()[:6]]
        begin = 60000 * numbers[0] + 1000 * numbers[1] + numbers[2]
        end = 60000 * numbers[3] + 1000 * numbers[4] + numbers[5]
        captions.append((begin, end, found.group(7)))
    return captions


def has_clash(captions):
    """Which caption is the first that clashes, by looking at all pairs; -2 if none does."""
    for k, caption in enumerate(captions):
        if any(caption[0] < other[1] for other in captions[:k]):
            return k
    return -2


class Drawer:
    """Draws calls. Times lie close together, so that captions meet; now and then one is at an end of its range."""

    def __init__(self, seed):
        self.source = Random(seed)
        self.reach = self.source.choice((6, 40, 400, 100000))

    def time(self):
        if self.source.random() < 0.02:
            return self.source.choice((0, END - 2, END - 1, END, TOP))
        return self.source.randrange(self.reach)

    def caption(self):
        begin = self.time()
        return begin, begin + self.source.randrange(1, 2 + self.reach // 3)

    def says(self):
        if self.source.random() < 0.03:
            return self.source.choice(("", " ", "a ", " a", "\n", "\x7f", "x" * 81))
        if self.source.random() < 0.05:
            return "x" * 80
        return "".join(self.source.choice("ab~! c")
                       for _ in range(self.source.randrange(1, 6))).strip() or "x"

    def text(self):
        rows = []
        for _ in range(self.source.choice((0, 1, 2, 5, 12))):
            begin, end = self.caption()
            rows.append(line(begin % END, end % END, self.says()))
            if self.source.random() < 0.1:
                rows.append("\n")
        text = "".join(rows)
        return text[:-1] if self.source.random() < 0.2 else text

    def anchors(self):
        count = self.source.choice((0, 1, 1, 2, 2, 3, 5, 16, 17))
        sides = [sorted(self.time() for _ in range(count)) for _ in (0, 1)]
        if self.source.random() < 0.8:
            # Made to rise, and from 0 to 0 so that less falls below 0.
            sides = [[time + k for k, time in enumerate(side)] for side in sides]
            sides = [[0] + side[1:] for side in sides]
        return list(zip(*sides))[:count]

    def call(self):
        kind = self.source.choices(range(6), (2, 30, 8, 8, 6, 12))[0]
        if kind == 0:
            return load(self.text())
        if kind == 1:
            begin, end = self.caption()
            return add(begin, end if self.source.random() < 0.95 else begin, self.says())
        if kind == 2:
            return drop(self.source.randrange(12))
        if kind == 3:
            return move(*self.anchors())
        if kind == 4:
            return fit(self.source.randrange(self.reach), self.source.choice((0, 0, 1, self.time())))
        return back()

    def calls(self):
        start = [load(hundred())] if self.source.random() < 0.1 else []
        return start + [self.call() for _ in range(self.source.randrange(5, 60))]


class Stage:
    """A call, the number that it answered, the captions told before and behind it, and the clash answered behind it."""

    def __init__(self, call, number, before, text, clashes):
        self.call = call
        self.number = number
        self.before = before
        self.text = text
        self.clashes = clashes


def stages(calls):
    """Each call with what's told around it, all on one desk."""
    found = []
    before = ""
    given = replies(*[part for call in calls for part in (call, tell(), clash())])
    for k, call in enumerate(calls):
        number, = given[3 * k]
        clashes, = given[3 * k + 2]
        text = text_of(given[3 * k + 1])
        found.append(Stage(call, number, before, text, clashes))
        before = text
    return found


class Holds(unittest.TestCase):
    @classmethod
    def setUpClass(cls):
        cls.lists = [Drawer(seed).calls() for seed in range(LISTS)]
        cls.runs = [stages(calls) for calls in cls.lists]

    def each(self):
        return [stage for run in self.runs for stage in run]

    def test_the_lists_have_all_there_is(self):
        there = {(stage.call[0], max(stage.number, -1000) if stage.number < 0 else 0) for stage in self.each()}
        for kind, numbers in enumerate(((0, -1000), (0, -22, -12), (0, -2), (0, -22, -33), (0, -22, -33), (0, -2))):
            for number in numbers:
                self.assertIn((kind, number), there)
        self.assertTrue(any(stage.clashes == -2 and stage.text.count("\n") > 3 for stage in self.each()))
        self.assertTrue(any(stage.clashes > 3 for stage in self.each()))

    def test_a_in_order_and_as_a_line_could_tell_it(self):
        for stage in self.each():
            captions = read(stage.text)
            self.assertLessEqual(len(captions), 100)
            self.assertEqual(captions, sorted(captions, key=lambda caption: caption[:2]))
            for begin, end, _ in captions:
                self.assertTrue(0 <= begin < end < END, (begin, end))

    def test_b_fitted_none_clash_and_each_lasts_as_long_as_told(self):
        for stage in self.each():
            if stage.call[0] == FIT and stage.number >= 0:
                was, now = read(stage.before), read(stage.text)
                self.assertEqual(stage.clashes, -2)
                self.assertEqual([caption[2] for caption in now], [caption[2] for caption in was])
                for begin, end, _ in now:
                    self.assertGreaterEqual(end - begin, stage.call[1])
                for one, other in zip(now, now[1:]):
                    self.assertGreaterEqual(other[0] - one[1], stage.call[2])
                shifts = [abs(one[k] - other[k]) for one, other in zip(was, now) for k in (0, 1)]
                self.assertEqual(stage.number, max(shifts, default=0))

    def test_b_no_greatest_shift_would_have_been_less(self):
        for stage in self.each():
            if stage.call[0] == FIT and stage.number > 0:
                self.assertFalse(self.can_be(read(stage.before), stage.call[1], stage.call[2], stage.number - 1))
                self.assertTrue(self.can_be(read(stage.before), stage.call[1], stage.call[2], stage.number))

    def can_be(self, captions, lasts, gap, shift):
        """Whether times may be so with no greater shift, by giving each the earliest that it can have."""
        least = 0
        for begin, end, _ in captions:
            for wish, room in ((begin, lasts), (end, gap)):
                time = max(least, wish - shift)
                if time > wish + shift or time >= END:
                    return False
                least = time + room
        return True

    def test_b_fitted_again_nothing_changes(self):
        for calls, run in zip(self.lists, self.runs):
            for k, stage in enumerate(run):
                if stage.call[0] == FIT and stage.number >= 0:
                    given = replies(*calls[:k + 1], stage.call, tell())
                    self.assertEqual(given[-2], [0])
                    self.assertEqual(text_of(given[-1]), stage.text)

    def test_c_at_most_one_is_shown_at_a_time_just_if_none_clash(self):
        for stage in self.each():
            captions = read(stage.text)
            times = sorted({time + more for caption in captions for time in caption[:2] for more in (-1, 0, 1)} - {-1})
            given = replies(load(stage.text), *[shown(time) for time in times])[1:]
            most = 0
            for time, numbers in zip(times, given):
                expected = [says for begin, end, says in captions if begin <= time < end]
                self.assertEqual(text_of(numbers), "".join(says + "\n" for says in expected))
                most = max(most, text_of(numbers).count("\n"))
            self.assertEqual(most <= 1, stage.clashes == -2)
            self.assertEqual(stage.clashes, has_clash(captions))

    def test_d_told_as_a_text_and_loaded_it_is_the_same(self):
        for stage in self.each():
            given = replies(load(stage.text), tell(), clash())
            self.assertEqual(given[0], [len(read(stage.text))])
            self.assertEqual(text_of(given[1]), stage.text)
            self.assertEqual(given[2], [stage.clashes])

    def test_d_all_steps_from_there_on_are_the_same(self):
        for calls, run in zip(self.lists, self.runs):
            middle = len(calls) // 2
            later = [call for call in calls[middle:] if call[0] in STEPS]
            looks = later + [tell(), clash()]
            self.assertEqual(replies(*calls[:middle], *looks)[middle:],
                             replies(load(run[middle - 1].text), *looks)[1:])

    def test_e_back_is_as_it_was(self):
        for run in self.runs:
            were = []
            for stage in run:
                if stage.call[0] == BACK:
                    self.assertEqual(stage.number, len(were) - 1 if were else -2)
                    self.assertEqual(stage.text, were.pop() if were else stage.before)
                elif stage.number >= 0:
                    were = (were + [stage.before])[-16:]

    def test_e_all_the_way_back(self):
        for calls, run in zip(self.lists, self.runs):
            were = [""]
            for stage in run:
                if stage.call[0] in STEPS and stage.number >= 0:
                    were = (were + [stage.text])[-17:]
                elif stage.call[0] == BACK and stage.number >= 0:
                    were.pop()
            for taken in range(len(were) + 1):
                self.assertEqual(told(*calls, *[back()] * taken), were[max(0, len(were) - 1 - taken)])

    def test_e_what_is_refused_changes_nothing(self):
        for calls, run in zip(self.lists, self.runs):
            for stage in run:
                if stage.number < 0:
                    self.assertEqual(stage.text, stage.before)
            # Without the refused calls all others answer as they did.
            taken = [stage for stage in run if stage.number >= 0]
            given = replies(tell(), *[stage.call for stage in taken], tell())
            self.assertEqual(given[1:-1], [[stage.number] for stage in taken])
            self.assertEqual(text_of(given[-1]), run[-1].text)

    def test_looking_changes_nothing(self):
        for calls, run in zip(self.lists, self.runs):
            self.assertEqual(replies(*calls), [[stage.number] for stage in run])

    def test_what_is_handed_in_stays_and_is_answered_alike(self):
        for calls in self.lists:
            handed = strung(*calls, tell(), shown(3), clash())
            copy = list(handed)
            first = answers(handed)
            self.assertEqual(handed, copy)
            self.assertEqual(answers(handed), first)
            self.assertEqual(handed, copy)


if __name__ == "__main__":
    unittest.main()

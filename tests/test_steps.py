"""The desk: captions in order, how they were before the last 16 steps, and that a refusal changes nothing."""

import unittest

from captiondesk.captions import answer
from captiondesk.desk import Desk
from tests.calls import add, check_step, desk_after, drop, fit, hundred, line, load, move, state, written


class Steps(unittest.TestCase):
    def test_a_new_desk_is_empty(self):
        self.assertEqual(state(Desk()), ([], []))

    def test_each_call_that_is_answered_from_0_up_is_a_step(self):
        for call in (load(""), load(line(1, 2)), add(1, 2), move(), fit(1, 0)):
            with self.subTest(call=call):
                self.assertEqual(len(desk_after(call).earlier), 1)
        self.assertEqual(len(desk_after(add(1, 2), drop(0)).earlier), 2)

    def test_a_step_that_changes_nothing_is_one(self):
        there = [add(1, 2), add(3, 4)]
        captions = [(1, 2, "x"), (3, 4, "x")]
        check_step(self, there, move(), 2, captions)
        check_step(self, there, move((7, 7)), 2, captions)
        check_step(self, there, fit(1, 0), 0, captions)
        check_step(self, there, load(line(1, 2) + line(3, 4)), 2, captions)

    def test_a_refusal_is_no_step(self):
        refused = (load("?"), load("\n" * 16385), add(2, 2), add(1, 2, ""), drop(1), move((1, 1), (1, 2)),
                   move((5, 0)), fit(0, 0), fit(1, 6000000))
        desk = desk_after(add(1, 2))
        held = state(desk)
        for call in refused:
            with self.subTest(call=call):
                self.assertLess(answer(desk, call)[0], 0)
                self.assertEqual(state(desk), held)

    def test_16_steps_and_one_more(self):
        desk = Desk()
        were = []
        for k in range(40):
            were.append(written(desk.captions))
            answer(desk, add(k, k + 1))
            self.assertEqual([written(captions) for captions in desk.earlier], were[-16:])
        self.assertEqual(len(desk.earlier), 16)

    def test_refusals_do_not_push_steps_out(self):
        calls = [add(k, k + 1) for k in range(16)]
        desk = desk_after(*calls)
        self.assertEqual(desk.earlier[0], [])
        held = state(desk)
        for k in range(40):
            answer(desk, drop(99))
        self.assertEqual(state(desk), held)

    def test_what_is_kept_stays_as_it_was(self):
        calls = [load(hundred()), drop(5), add(12, 13, "new"), move((0, 500)), fit(40, 2), load(""), add(1, 9), drop(0)]
        desk = Desk()
        were = []
        for call in calls:
            were.append(written(desk.captions))
            answer(desk, call)
        self.assertEqual([written(captions) for captions in desk.earlier], were)

    def test_always_in_order_and_as_a_line_could_tell(self):
        calls = [load(hundred()), drop(50), add(3, 5999999), add(4294967295, 3), move((0, 0), (1000, 500)), drop(0),
                 move((9, 0)), add(0, 7), fit(9, 9), move((0, 5000000)), add(0, 1), fit(30000, 7), fit(59950, 50)]
        desk = Desk()
        for call in calls:
            answer(desk, call)
            captions = written(desk.captions)
            self.assertLessEqual(len(captions), 100)
            self.assertEqual(captions, sorted(captions, key=lambda caption: caption[:2]))
            for begin, end, says in captions:
                self.assertTrue(0 <= begin < end < 6000000, (begin, end))
                self.assertTrue(1 <= len(says) <= 80 and says == says.strip(" "))


if __name__ == "__main__":
    unittest.main()

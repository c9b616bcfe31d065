"""Point 6: back."""

import unittest

from tests.calls import (add, ask, back, check_refused, clash, desk_after, drop, fit, hundred, line, load, move, replies,
                         shown, state, tell, told)

THERE = [load(line(10, 20, "a") + line(10, 30, "b") + line(40, 50, "c"))]
TEXT = line(10, 20, "a") + line(10, 30, "b") + line(40, 50, "c")

# Each kind of step, and what's told behind it.
CHANGES = (
    (load(line(1, 2, "new")), line(1, 2, "new")),
    (load(""), ""),
    (add(10, 25, "new"), line(10, 20, "a") + line(10, 25, "new") + line(10, 30, "b") + line(40, 50, "c")),
    (drop(1), line(10, 20, "a") + line(40, 50, "c")),
    (move((0, 1)), line(11, 21, "a") + line(11, 31, "b") + line(41, 51, "c")),
    (move((0, 0), (20, 10)), line(5, 10, "a") + line(5, 15, "b") + line(20, 25, "c")),
    (fit(10, 0), line(5, 15, "a") + line(15, 30, "b") + line(40, 50, "c")),
)
# Each kind of step that can leave the captions as they were.
NO_CHANGES = (load(TEXT), move(), move((7, 7)))
REFUSED = (load("?"), load("\n" * 16385), add(2, 2), add(1, 2, ""), drop(3), move((1, 1), (1, 2)), move((11, 0)),
           fit(0, 0), fit(1, 6000000), fit(3000000, 1))


class Nothing(unittest.TestCase):
    def test_a_new_desk(self):
        check_refused(self, [], back(), -2)
        self.assertEqual(ask(back(), back()), [-2, -2])

    def test_refusals_alone(self):
        for call in (load("?"), add(2, 2), drop(0), move((1, 1), (1, 2)), fit(0, 0), back()):
            with self.subTest(call=call):
                check_refused(self, [call], back(), -2)

    def test_calls_that_are_no_steps(self):
        for call in (tell(0), tell(), shown(0), clash()):
            with self.subTest(call=call):
                check_refused(self, [call], back(), -2)

    def test_all_taken_back(self):
        check_refused(self, [add(1, 2), back()], back(), -2)
        self.assertEqual(ask(add(1, 2), back(), back(), back()), [0, 0, -2, -2])


class AsItWas(unittest.TestCase):
    def test_each_kind_of_step(self):
        self.assertEqual(told(*THERE), TEXT)
        for call, behind in CHANGES:
            with self.subTest(call=call):
                self.assertEqual(told(*THERE, call), behind)
                self.assertEqual(told(*THERE, call, back()), TEXT)
                self.assertEqual(ask(*THERE, call, back())[-1], 1)
                self.assertEqual(state(desk_after(*THERE, call, back())), state(desk_after(*THERE)))

    def test_each_kind_of_step_on_no_captions(self):
        for call in (load(TEXT), load(""), add(1, 2), move(), move((5, 0)), fit(1, 0)):
            with self.subTest(call=call):
                self.assertEqual(told(call, back()), "")
                self.assertEqual(ask(call, back(), back())[1:], [0, -2])

    def test_a_step_that_changes_nothing_is_one(self):
        for call in NO_CHANGES:
            with self.subTest(call=call):
                self.assertEqual(told(*THERE, call), TEXT)
                self.assertEqual(ask(*THERE, call, call, back(), back(), back(), back())[3:], [2, 1, 0, -2])
                self.assertEqual(told(*THERE, call, call, back(), back()), TEXT)

    def test_a_fit_that_moves_nothing_is_one(self):
        there = [add(10, 20)]
        self.assertEqual(ask(*there, fit(10, 0), back(), back(), back()), [0, 0, 1, 0, -2])
        self.assertEqual(told(*there, fit(10, 0), back()), line(10, 20))

    def test_a_refusal_is_none(self):
        for call in REFUSED:
            with self.subTest(call=call):
                self.assertLess(ask(*THERE, call)[-1], 0)
                self.assertEqual(ask(*THERE, drop(0), call, back(), back(), back())[3:], [1, 0, -2])
                self.assertEqual(told(*THERE, drop(0), call, back()), TEXT)

    def test_no_room_is_none(self):
        full = [load(hundred()), add(1, 2), back()]
        self.assertEqual(ask(*full, back()), [100, -12, 0, -2])
        self.assertEqual(told(*full), "")

    def test_tell_shown_and_clash_are_none(self):
        looks = (tell(), tell(0), shown(15), clash())
        self.assertEqual(replies(*THERE, *looks, drop(0), *looks, back())[-1], [1])
        self.assertEqual(told(*THERE, *looks, drop(0), *looks, back()), TEXT)

    def test_the_order_of_those_alike_comes_back(self):
        there = [add(11, 20, "b"), add(10, 30, "a")]
        self.assertEqual(told(*there, move((0, 0), (100, 10)), back()), line(10, 30, "a") + line(11, 20, "b"))


class Several(unittest.TestCase):
    def test_one_behind_another(self):
        calls = [call for call, _ in CHANGES if call[0] != 2] + [add(60, 70), drop(0)]
        for taken in range(len(calls) + 1):
            backs = [back()] * taken
            with self.subTest(taken=taken):
                self.assertEqual(told(*THERE, *calls, *backs), told(*THERE, *calls[:len(calls) - taken]))

    def test_a_back_is_no_step(self):
        # If it were, the second would take the first back.
        self.assertEqual(told(add(1, 2), add(3, 4), back(), back()), "")
        self.assertEqual(ask(add(1, 2), add(3, 4), back(), back(), back())[2:], [1, 0, -2])

    def test_steps_after_a_back(self):
        calls = [add(1, 2, "a"), add(3, 4, "b"), back(), add(5, 6, "c")]
        self.assertEqual(told(*calls), line(1, 2, "a") + line(5, 6, "c"))
        self.assertEqual(told(*calls, back()), line(1, 2, "a"))
        self.assertEqual(told(*calls, back(), back()), "")
        self.assertEqual(ask(*calls, back(), back(), back())[4:], [1, 0, -2])

    def test_refused_after_a_back(self):
        calls = [add(1, 2, "a"), add(3, 4, "b"), back(), drop(1)]
        self.assertEqual(ask(*calls), [0, 1, 1, -2])
        self.assertEqual(told(*calls), line(1, 2, "a"))
        self.assertEqual(ask(*calls, back(), back())[4:], [0, -2])


class Sixteen(unittest.TestCase):
    def adds(self, count):
        return [add(k, k + 1, f"n{k}") for k in range(count)]

    def text(self, count):
        return "".join(line(k, k + 1, f"n{k}") for k in range(count))

    def test_16_steps(self):
        calls = self.adds(16)
        self.assertEqual(ask(*calls, *[back()] * 17)[16:], list(range(15, -1, -1)) + [-2])
        for taken in range(17):
            self.assertEqual(told(*calls, *[back()] * taken), self.text(16 - taken))

    def test_15_steps(self):
        self.assertEqual(ask(*self.adds(15), *[back()] * 16)[15:], list(range(14, -1, -1)) + [-2])

    def test_16_and_one_more(self):
        calls = self.adds(17)
        self.assertEqual(ask(*calls, *[back()] * 18)[17:], list(range(15, -1, -1)) + [-2, -2])
        for taken in range(17):
            self.assertEqual(told(*calls, *[back()] * taken), self.text(17 - taken))
        # The first step can't be taken back any more.
        self.assertEqual(told(*calls, *[back()] * 20), self.text(1))

    def test_many_more(self):
        calls = self.adds(90)
        self.assertEqual(ask(*calls, *[back()] * 17)[90:], list(range(15, -1, -1)) + [-2])
        self.assertEqual(told(*calls, *[back()] * 17), self.text(74))

    def test_steps_that_change_nothing_push_others_out(self):
        calls = [add(1, 2)] + [move()] * 16
        self.assertEqual(ask(*calls, *[back()] * 17)[17:], list(range(15, -1, -1)) + [-2])
        self.assertEqual(told(*calls, *[back()] * 17), line(1, 2))

    def test_refusals_push_none_out(self):
        calls = self.adds(16) + [drop(99), add(1, 1), back(), add(3, 3)]
        self.assertEqual(ask(*calls, *[back()] * 16)[20:], list(range(14, -1, -1)) + [-2])
        self.assertEqual(told(*calls, *[back()] * 16), "")

    def test_what_was_pushed_out_stays_so_after_a_back(self):
        calls = self.adds(20) + [back()] * 10 + [drop(0)]
        # 16 could be taken back, then 6, then 7 again.
        self.assertEqual(ask(*calls, *[back()] * 8)[31:], [6, 5, 4, 3, 2, 1, 0, -2])
        self.assertEqual(told(*calls, back()), self.text(10))
        self.assertEqual(told(*calls, *[back()] * 8), self.text(4))

    def test_16_again_after_all_were_taken_back(self):
        calls = self.adds(16) + [back()] * 16 + self.adds(17)
        self.assertEqual(ask(*calls, *[back()] * 17)[49:], list(range(15, -1, -1)) + [-2])
        self.assertEqual(told(*calls, *[back()] * 17), self.text(1))


if __name__ == "__main__":
    unittest.main()

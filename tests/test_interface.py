"""The interface: captiondesk.captions.answers(calls)."""

import contextlib
import io
import unittest

from captiondesk import captions
from tests.calls import (add, ask, back, clash, counted, drop, fit, hundred, line, load, move, replies, shown, strung,
                         tell)


TOP = 4294967295


class Untouchable(list):
    """A list that can't be changed."""

    def refuse(self, *args, **kwargs):
        raise AssertionError("what is handed in was changed")

    append = clear = extend = insert = pop = remove = reverse = sort = refuse
    __setitem__ = __delitem__ = __iadd__ = __imul__ = refuse


SESSION = strung(back(), tell(0), load(line(1, 2) + line(1, 2)), add(1, 2), clash(), tell(65), tell(66), shown(1),
                 shown(2), add(0, 9), drop(7), drop(0), move((1, 5)), move((9, 0)), fit(3, 1), clash(), fit(0, 0),
                 load("?"), back(), back(), load(""), add(3, 3), fit(1, 1), tell(9), shown(TOP), back(), clash())
ANSWERED = [[-2], [0], [2], [2], [1], [-28], counted(line(1, 2) * 3), counted("x\n" * 3),
            [0], [0], [-2], [3], [3], [-33], [5], [-2], [-22],
            [-1001], [5], [4], [0], [-22], [0], [0], [0], [5], [-2]]


class Answers(unittest.TestCase):
    def test_how_many_numbers_then_these(self):
        self.assertEqual(captions.answers(strung(load(hundred()))), [1, 100])
        self.assertEqual(captions.answers(drop(0)), [1, -2])
        self.assertEqual(captions.answers(strung(add(1, 2), add(1, 2), drop(5), drop(0))), [1, 0, 1, 1, 1, -2, 1, 1])

    def test_written_out_number_by_number(self):
        text = [48, 48, 58, 48, 48, 46, 48, 48, 49, 32, 48, 48, 58, 48, 48, 46, 48, 48, 50, 32, 72, 105, 10]
        calls = [0, 23] + text + [1, 0, 5, 2, 72, 105, 3, 4, 0, 10, 5, 20, 4, 2, 1, 2, 1, 2, 1, 4, 0, 0]
        # 0 to 5 and 1 to 2 go to 10 to 20 and 12 to 14; fitted these meet half way, at 15 and 16.
        self.assertEqual(captions.answers(calls), [1, 1, 1, 0, 1, 2, 1, 5, 1, 1, 1, -2, 1, -22])

    def test_back_tell_shown_and_clash_number_by_number(self):
        calls = [5, 8, 1, 0, 5, 2, 72, 105, 7, 4, 7, 5, 6, 22, 6, 23, 8, 1, 4, 6, 1, 33, 8, 5, 5, 5, 6, 0]
        text = [48, 48, 58, 48, 48, 46, 48, 48, 48, 32, 48, 48, 58, 48, 48, 46, 48, 48, 53, 32, 72, 105, 10]
        given = [1, -2, 1, -2, 1, 0, 4, 3, 72, 105, 10, 1, 0, 1, -28, 24, 23] + text
        self.assertEqual(captions.answers(calls), given + [1, -2, 1, 1, 1, 1, 1, 1, 1, 0, 1, -2, 1, 0])

    def test_each_call_in_turn(self):
        self.assertEqual(captions.answers(SESSION), strung(*[[len(numbers)] + numbers for numbers in ANSWERED]))

    def test_whole_numbers_in_a_list(self):
        given = captions.answers(SESSION)
        self.assertIs(type(given), list)
        self.assertEqual({type(number) for number in given}, {int})

    def test_empty_rows(self):
        self.assertEqual(ask(load(""), add(1, 2, ""), move(), drop(0)), [0, -22, 0, -2])

    def test_bytes_of_a_row_are_not_taken_for_calls(self):
        self.assertEqual(ask(load([2, 0, 2, 0]), add(1, 2, bytes([4, 1, 0])), drop(0)), [-1001, -22, -2])
        self.assertEqual(ask(load([5, 8]), add(5, 8, bytes([6, 7])), back(), clash()), [-1001, -22, -2, -2])

    def test_arguments_are_not_taken_for_calls(self):
        self.assertEqual(ask(drop(5), tell(5), shown(8), fit(5, 8), move((5, 8)), back(), back(), back()),
                         [-2, 0, 0, 0, 0, 1, 0, -2])


class HandedIn(unittest.TestCase):
    def test_it_is_not_changed(self):
        calls = list(SESSION)
        captions.answers(calls)
        self.assertEqual(calls, SESSION)

    def test_not_for_a_while_either(self):
        self.assertEqual(captions.answers(Untouchable(SESSION)), captions.answers(SESSION))

    def test_nothing_is_kept(self):
        first = captions.answers(SESSION)
        first.append(7)
        self.assertEqual(captions.answers(drop(0)), [1, -2])
        self.assertEqual(captions.answers(SESSION), first[:-1])

    def test_it_prints_nothing(self):
        out, err = io.StringIO(), io.StringIO()
        with contextlib.redirect_stdout(out), contextlib.redirect_stderr(err):
            captions.answers(SESSION)
        self.assertEqual(out.getvalue() + err.getvalue(), "")


class Long(unittest.TestCase):
    def test_5000_calls(self):
        self.assertEqual(ask(*[drop(0)] * 5000), [-2] * 5000)
        self.assertEqual(ask(*[add(k, k + 1) for k in range(5000)]), list(range(100)) + [-12] * 4900)

    def test_5000_calls_on_a_hundred_captions(self):
        given = ask(load(hundred()), *[fit(7, 2)] * 4900)
        self.assertEqual(given[0], 100)
        self.assertEqual(given[2:], [0] * 4899)

    def test_5000_calls_that_look(self):
        full = load(("99:59.998 99:59.999 " + "x" * 80 + "\n") * 100)
        self.assertEqual(ask(full, *[tell(10099)] * 1000, *[shown(0)] * 2000, *[clash()] * 1999),
                         [100] + [-28] * 1000 + [0] * 2000 + [1] * 1999)

    def test_5000_steps_and_backs(self):
        self.assertEqual(ask(*strung(*[[add(1, 2), back()]] * 2500)), [0] * 5000)
        self.assertEqual(ask(load(hundred()), *[back()] * 4999), [100, 0] + [-2] * 4998)

    def test_nearly_a_million_numbers(self):
        text = ("99:59.998 99:59.999 " + "x" * 80 + "\n") * 100
        self.assertEqual(replies(load(text), *[tell(10100)] * 98), [[100]] + [counted(text)] * 98)

    def test_a_text_of_17000_bytes(self):
        self.assertEqual(ask(load("x" * 17000), load("\n" * 11000)), [-22, 0])

    def test_a_long_row_of_maps(self):
        anchors = [(k, k) for k in range(16)]
        self.assertEqual(ask(load(hundred()), *[move(*anchors)] * 700), [100] * 701)


if __name__ == "__main__":
    unittest.main()

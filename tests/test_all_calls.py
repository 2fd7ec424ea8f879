"""The interface with all twelve calls, and that the six that ask for something change nothing."""

import ast
import contextlib
import io
import pathlib
import unittest

import onelanedesk.bridge
from calling import (MOST_NUMBER, asked, begins, comes, gives, last, limit, loads, most, queue, shut, state, ticks,
                     when, where)
from onelanedesk.bridge import answers

EVERY_KIND = (begins(2, 2, 9, 3, 7), comes(0, 7), comes(1, 6), comes(0, 3), comes(1, 2), ticks(4), where(0), when(1),
              gives(3), loads(), queue(1), most(), state(), ticks(30), limit(1, 8), shut(1), comes(1, 8), when(4),
              where(4), queue(0), state())


def one_list(*calls):
    return [number for call in calls for number in call]


class TheFirstCall(unittest.TestCase):

    def test_any_of_the_twelve(self):
        firsts = ((begins(1, 1, 1), [1]), (comes(0, 1), [0]), (gives(0), [-2]), (ticks(1), [1, 0]),
                  (limit(0, 1), [0, 0]), (shut(1), [0]), (where(0), [-2]), (when(0), [-2]), (loads(), [0, 1, 0]),
                  (queue(0), [0, 0]), (most(), [0, 2, 0, 0]), (state(), [0, 5, 1, 0, 0, 0, 0, 2, 1, 1, 0]))
        self.assertEqual([call[0] for call, answer in firsts], list(range(12)))
        for call, answer in firsts:
            self.assertEqual(answers(list(call)), [len(answer)] + answer, call)

    def test_it_is_followed_by_any_other_one(self):
        asking = (where(0), when(0), loads(), queue(0), queue(1), most(), state())
        for call in asking:
            self.assertEqual(asked(call, *asking)[1:], asked(*asking), call)

    def test_80_calls(self):
        self.assertEqual(answers([8] * 80), [3, 0, 1, 0] * 80)
        self.assertEqual(answers([10] * 80), [4, 0, 2, 0, 0] * 80)


class TheAnswers(unittest.TestCase):

    def test_each_list_stands_behind_its_length(self):
        calls = [0, 2, 4, 2, 10, 3, 5, 1, 0, 5, 1, 1, 5, 3, 1, 6, 0, 6, 1, 7, 1, 8, 9, 1, 10, 11]
        given = [1, 5, 1, 0, 1, 1, 2, 1, 0, 3, 1, 1, 0, 3, 0, 1, 0, 1, 10, 4, 1, 2, 5, 0, 3, 1, 1, 1,
                 6, 0, 4, 5, 1, 0, 0, 15, 1, 5, 2, 0, 1, 0, 2, 4, 2, 10, 3, 5, 2, 0, 0]
        self.assertEqual(answers(calls), given)

    def test_a_refusal_is_its_number_alone(self):
        self.assertEqual(answers([6, 0]), [1, -2])
        self.assertEqual(answers([7, 0]), [1, -2])
        self.assertEqual(answers([5, 1, 1, 0, 1, 7, 0]), [1, 0, 1, 0, 1, -6])
        self.assertEqual(answers([9, 2]), [1, -1])

    def test_nothing_but_a_refusal_is_below_0(self):
        for answer in asked(*EVERY_KIND):
            if len(answer) > 1 or answer[0] >= 0:
                self.assertTrue(all(number >= 0 for number in answer), answer)

    def test_they_are_a_list_of_whole_numbers(self):
        given = answers(one_list(*EVERY_KIND, shut(0), state(), *EVERY_KIND, begins(1, 1, 1), state()))
        self.assertIs(list, given.__class__)
        self.assertEqual({int}, {number.__class__ for number in given})

    def test_the_greatest_numbers(self):
        met = asked(where(MOST_NUMBER), when(MOST_NUMBER), queue(MOST_NUMBER))
        self.assertEqual(met, [[-2], [-2], [-1]])


class WhatIsHandedIn(unittest.TestCase):

    def test_it_stays_as_it_was(self):
        self.assertEqual({call[0] for call in EVERY_KIND}, set(range(12)))
        calls = one_list(*EVERY_KIND)
        answers(calls)
        self.assertEqual(calls, one_list(*EVERY_KIND))

    def test_nothing_is_kept_from_one_time_to_the_next(self):
        first = answers(one_list(*EVERY_KIND))
        self.assertEqual(asked(state(), most(), loads(), queue(0), queue(1), where(0), when(0)),
                         [[0, 5, 1, 0, 0, 0, 0, 2, 1, 1, 0], [0, 2, 0, 0], [0, 1, 0], [0, 0], [0, 0], [-2], [-2]])
        self.assertEqual(answers(one_list(*EVERY_KIND)), first)

    def test_what_was_given_back_is_the_callers_own(self):
        first = answers(one_list(*EVERY_KIND))
        kept = list(first)
        answers(one_list(*EVERY_KIND)).clear()
        self.assertEqual(first, kept)
        self.assertEqual(answers(one_list(*EVERY_KIND)), kept)


class AskingChangesNothing(unittest.TestCase):

    asking = (*[where(number) for number in range(6)], *[when(number) for number in range(6)], loads(), queue(0),
              queue(1), queue(2), most(), state())
    doing = (begins(1, 2, 9, 2, 5), comes(0, 5), comes(1, 5), comes(0, 4), ticks(2), comes(1, 1), shut(1), ticks(1),
             gives(2), ticks(9), shut(0), limit(1, 4), limit(1, 6), comes(1, 6), comes(0, 6), ticks(3), ticks(40))

    def test_what_is_done_behind_it_is_answered_as_if_it_had_not_been_asked(self):
        without = asked(*self.doing)
        for call in self.asking:
            met = asked(*[part for done in self.doing for part in (call, done)])
            self.assertEqual(met[1::2], without, call)

    def test_what_is_asked_behind_it_is_answered_as_if_it_had_not_been_asked(self):
        for many in range(len(self.doing) + 1):
            before = self.doing[:many]
            without = asked(*before, *self.asking)[many:]
            for call in self.asking:
                self.assertEqual(asked(*before, call, *self.asking)[many + 1:], without, (many, call))

    def test_when_lets_no_tick_go_by(self):
        before = (begins(1, 1, 9), comes(1, 9), comes(0, 4), comes(1, 3))
        alone = asked(*before, state(), most(), queue(0), queue(1), where(0), where(1), loads())[4:]
        behind = asked(*before, when(0), when(1), when(2), state(), most(), queue(0), queue(1), where(0), where(1),
                       loads())[4:]
        self.assertEqual(behind, [[3], [2], [4]] + alone)
        self.assertEqual(alone[:2], [[0, 5, 1, 0, 0, 0, 3, 2, 1, 9, 0], [0, 2, 0, 0]])

    def test_when_puts_nobody_on_the_bridge(self):
        self.assertEqual(last(begins(1, 1, 9), comes(0, 9), when(0), limit(0, 9)), [0, 0])
        self.assertEqual(last(begins(1, 1, 9), comes(0, 9), when(0), gives(0)), [0])


class TheModule(unittest.TestCase):

    def test_it_imports_nothing(self):
        tree = ast.parse(pathlib.Path(onelanedesk.bridge.__file__).read_text(encoding="ascii"))
        found = [node.lineno for node in ast.walk(tree) if isinstance(node, (ast.Import, ast.ImportFrom))]
        self.assertEqual(found, [])

    def test_it_prints_nothing(self):
        printed = io.StringIO()
        with contextlib.redirect_stdout(printed), contextlib.redirect_stderr(printed):
            answers(one_list(*EVERY_KIND))
        self.assertEqual(printed.getvalue(), "")


if __name__ == "__main__":
    unittest.main()

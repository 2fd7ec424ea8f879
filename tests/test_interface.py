"""The interface: what is handed in, and what is given back."""

import unittest

from calling import MOST_NUMBER, asked, begins, comes, gives, limit, shut, ticks
from onelanedesk.bridge import answers


def one_list(*calls):
    return [number for call in calls for number in call]


class TheAnswers(unittest.TestCase):

    def test_each_stands_behind_its_length(self):
        calls = [0, 2, 4, 2, 10, 3, 5, 1, 0, 5, 1, 1, 5, 3, 1, 3, 10, 4, 1, 4, 2, 9, 5, 0]
        given = [1, 5, 1, 0, 1, 1, 2, 1, 0, 4, 11, 2, 0, 1, 2, 0, 0, 1, -2, 1, 0]
        self.assertEqual(answers(calls), given)

    def test_a_list_that_is_answered_stands_behind_its_length(self):
        calls = [0, 1, 2, 1, 9, 1, 1, 9, 1, 0, 8, 1, 0, 7, 4, 0, 7]
        self.assertEqual(answers(calls), [1, 1, 1, 0, 1, 1, 1, 2, 4, 2, 2, 0, 1])

    def test_a_refusal_is_its_number_alone(self):
        self.assertEqual(answers([0, 0, 0]), [1, -1])
        self.assertEqual(answers([1, 0, 2]), [1, -6])
        self.assertEqual(answers([2, 0]), [1, -2])
        self.assertEqual(answers([3, 0]), [1, -1])
        self.assertEqual(answers([4, 1, 1]), [1, -2])
        self.assertEqual(answers([5, 7]), [1, -1])

    def test_they_are_a_list_of_whole_numbers(self):
        given = answers(one_list(begins(1, 1, 9), comes(0, 9), ticks(2), comes(1, 9), limit(0, 8), shut(1), shut(0)))
        self.assertIs(list, given.__class__)
        self.assertEqual({int}, {number.__class__ for number in given})

    def test_lists_of_all_lengths_are_gone_past(self):
        for length in range(61):
            met = asked(begins(1, *[3] * length), comes(0, 1), ticks(1))
            self.assertEqual(met[1:], [[0], [1, 0]], length)


class TheFirstCall(unittest.TestCase):

    def test_comes(self):
        self.assertEqual(answers([1, 0, 1]), [1, 0])
        self.assertEqual(answers([1, 1, 1]), [1, 0])
        self.assertEqual(answers([1, 0, 2]), [1, -6])

    def test_gives(self):
        self.assertEqual(answers([2, 0]), [1, -2])

    def test_ticks(self):
        self.assertEqual(answers([3, 5]), [2, 5, 0])

    def test_limit(self):
        self.assertEqual(asked(limit(0, 7), comes(0, 7), comes(0, 8)), [[0, 0], [0], [-6]])
        self.assertEqual(asked(limit(1, 7)), [[-2]])

    def test_shut(self):
        self.assertEqual(asked(shut(1), comes(0, 1), ticks(2)), [[0], [0], [2, 0]])
        self.assertEqual(asked(shut(0), comes(0, 1), ticks(2)), [[0], [0], [2, 1, 0]])

    def test_at_a_lists_beginning_a_turn_is_one_and_there_is_one_cell(self):
        met = asked(comes(1, 1), comes(0, 1), comes(0, 1), ticks(2), ticks(1), ticks(1))
        self.assertEqual(met, [[0], [1], [2], [2, 1, 1], [3, 1, 0], [4, 1, 2]])

    def test_at_a_lists_beginning_all_is_as_behind_a_begins(self):
        calls = (comes(1, 1), comes(0, 1), comes(0, 2), gives(3), ticks(3),
                 limit(0, 5), comes(0, 5), shut(1), ticks(9))
        self.assertEqual(asked(*calls), asked(begins(1, 1, 1), *calls)[1:])


class WhatIsHandedIn(unittest.TestCase):

    calls = one_list(begins(2, 2, 9, 3, 7), begins(0, 1, 1), comes(0, 7), comes(1, 6), comes(1, 8), comes(0, 3),
                     ticks(4), gives(1), gives(1), limit(0, 9), ticks(20), comes(0, 7), limit(1, 6), shut(1), ticks(1))

    def test_it_stays_as_it_was(self):
        handed_in = list(self.calls)
        answers(handed_in)
        self.assertEqual(handed_in, self.calls)

    def test_nothing_is_kept_from_one_time_to_the_next(self):
        first = answers(list(self.calls))
        self.assertEqual(answers([1, 0, 1, 3, 2]), [1, 0, 3, 2, 1, 0])
        self.assertEqual(answers([5, 1, 4, 0, 9]), [1, 0, 2, 0, 0])
        self.assertEqual(answers([1, 0, 2]), [1, -6])
        self.assertEqual(answers([1, 0, 1, 3, 2]), [1, 0, 3, 2, 1, 0])
        self.assertEqual(answers(list(self.calls)), first)

    def test_what_was_given_back_is_the_callers_own(self):
        first = answers(list(self.calls))
        kept = list(first)
        again = answers(list(self.calls))
        again.clear()
        self.assertEqual(first, kept)
        self.assertEqual(answers(list(self.calls)), kept)

    def test_the_longest_list(self):
        calls = one_list(*[begins(MOST_NUMBER, *[MOST_NUMBER] * 60)] * 80)
        self.assertEqual(len(calls), 5040)
        self.assertEqual(answers(calls), [1, -1] * 80)

    def test_the_longest_way(self):
        calls = [begins(20, *[5, 1000] * 12)] + [comes(number % 2, 1000) for number in range(60)]
        met = asked(*calls, *[ticks(1000)] * 19)
        left = [vehicle for answer in met[61:] for vehicle in answer[2:]]
        self.assertEqual(sorted(left), list(range(60)))
        self.assertEqual(met[-1][:1], [19000])

    def test_the_greatest_numbers(self):
        most = MOST_NUMBER
        met = asked(begins(most, most, most), comes(most, most), gives(most), ticks(most),
                    limit(most, most), shut(most))
        self.assertEqual(met, [[-1], [-1], [-2], [-1], [-1], [-1]])


if __name__ == "__main__":
    unittest.main()

"""Promise 1: begins."""

import unittest

from calling import MOST_NUMBER, asked, begins, comes, last, limit, shut, ticks, times_of_leaving


class WhatItAnswers(unittest.TestCase):

    def test_how_many_cells_there_are(self):
        self.assertEqual(asked(begins(1, 1, 1)), [[1]])
        self.assertEqual(asked(begins(3, 2, 10, 5, 7, 1, 1000)), [[8]])

    def test_the_most_there_can_be(self):
        self.assertEqual(asked(begins(20, *[5, 1000] * 12)), [[60]])

    def test_limits_are_not_counted_as_cells(self):
        self.assertEqual(asked(begins(1, 2, 5)), [[2]])
        self.assertEqual(asked(begins(1, 5, 2)), [[5]])


class WhatItRefuses(unittest.TestCase):

    def test_turn(self):
        for turn, answer in ((0, -1), (1, 2), (20, 2), (21, -1), (MOST_NUMBER, -1)):
            self.assertEqual(asked(begins(turn, 2, 10)), [[answer]], turn)

    def test_how_many_spans(self):
        for many, answer in ((0, -1), (1, 2), (12, 24), (13, -1), (30, -1)):
            self.assertEqual(asked(begins(1, *[2, 10] * many)), [[answer]], many)

    def test_a_list_of_an_odd_length(self):
        for many in range(1, 60, 2):
            self.assertEqual(asked(begins(1, *[2] * many)), [[-1]], many)

    def test_cells(self):
        for cells, answer in ((0, -1), (1, 1), (5, 5), (6, -1), (MOST_NUMBER, -1)):
            self.assertEqual(asked(begins(1, cells, 10)), [[answer]], cells)

    def test_cells_of_another_span_than_the_first(self):
        for cells, answer in ((0, -1), (1, 4), (5, 8), (6, -1), (MOST_NUMBER, -1)):
            self.assertEqual(asked(begins(1, 2, 10, cells, 10, 1, 10)), [[answer]], cells)
            self.assertEqual(asked(begins(1, 2, 10, 1, 10, cells, 10)), [[answer]], cells)

    def test_limits(self):
        for most, answer in ((0, -1), (1, 2), (1000, 2), (1001, -1), (MOST_NUMBER, -1)):
            self.assertEqual(asked(begins(1, 2, most)), [[answer]], most)

    def test_limits_of_another_span_than_the_first(self):
        for most, answer in ((0, -1), (1, 5), (1000, 5), (1001, -1), (MOST_NUMBER, -1)):
            self.assertEqual(asked(begins(1, 2, 10, 2, most, 1, 10)), [[answer]], most)
            self.assertEqual(asked(begins(1, 2, 10, 2, 10, 1, most)), [[answer]], most)

    def test_all_wrong_at_once(self):
        self.assertEqual(asked(begins(MOST_NUMBER, *[MOST_NUMBER] * 60)), [[-1]])


class WhatItMakes(unittest.TestCase):

    wrong = (begins(0, 1, 1), begins(21, 1, 1), begins(1), begins(1, *[1, 1] * 13), begins(1, 1, 1, 1),
             begins(1, 0, 1), begins(1, 6, 1), begins(1, 1, 0), begins(1, 1, 1001), begins(1, 1, 1, 6, 1))

    def test_a_refused_one_leaves_all_as_it_was(self):
        before = (begins(2, 3, 10), comes(0, 6), comes(0, 7), comes(1, 10), ticks(2), shut(1))
        after = (ticks(1), shut(0), comes(1, 10), ticks(20), limit(0, 9), comes(0, 9))
        without = asked(*before, *after)
        self.assertEqual(without[len(before):], [[3, 0], [1], [3], [23, 4, 0, 1, 2, 3], [0, 0], [4]])
        for call in self.wrong:
            met = asked(*before, call, *after)
            self.assertEqual(met[len(before)], [-1], call)
            self.assertEqual(met[:len(before)] + met[len(before) + 1:], without, call)

    def test_a_refused_one_leaves_the_lists_beginning_as_it_is(self):
        for call in self.wrong:
            met = asked(call, comes(0, 2), comes(1, 1), ticks(2))
            self.assertEqual(met, [[-1], [-6], [0], [2, 1, 0]], call)

    def test_another_one_makes_time_and_numbers_new(self):
        before = (begins(1, 2, 10), comes(0, 5), comes(1, 5), ticks(2))
        met = asked(*before, begins(1, 1, 8), comes(0, 8), ticks(5))
        self.assertEqual(met[len(before):], [[1], [0], [5, 1, 0]])

    def test_another_one_takes_all_from_the_bridge_and_its_sides(self):
        before = (begins(1, 2, 10), comes(0, 5), comes(0, 4), comes(1, 5), ticks(1))
        met = asked(*before, begins(1, 2, 10), shut(0), limit(0, 1), ticks(9))
        self.assertEqual(met[len(before):], [[2], [0], [0, 0], [9, 0]])

    def test_another_one_unshuts(self):
        self.assertEqual(last(shut(1), begins(1, 1, 1), comes(0, 1), ticks(2)), [2, 1, 0])

    def test_another_one_opens_the_left_side(self):
        before = (begins(1, 1, 5), comes(1, 5), ticks(1))
        met = times_of_leaving(5, *before, begins(1, 1, 5), comes(1, 5), comes(0, 5))
        self.assertEqual(met, [(2, 1), (3, 0)])

    def test_another_one_begins_to_count_who_entered(self):
        before = (begins(2, 1, 5), comes(0, 5), comes(0, 5), ticks(3))
        met = times_of_leaving(5, *before, begins(2, 1, 5), comes(0, 5), comes(1, 5), comes(0, 5))
        self.assertEqual(met, [(2, 0), (3, 2), (4, 1)])

    def test_another_one_has_limits_and_turn_of_its_own(self):
        met = asked(begins(1, 1, 1), begins(2, 1, 9), comes(1, 9), comes(0, 9), comes(0, 9), ticks(4))
        self.assertEqual(met, [[1], [1], [0], [1], [2], [4, 3, 1, 2, 0]])
        self.assertEqual(last(begins(1, 1, 9), limit(0, 10), begins(1, 1, 9), comes(0, 10)), [-6])

    def test_another_one_counts_those_that_come_anew(self):
        before = (begins(1, 1, 9), *[comes(0, 9)] * 60, comes(0, 9))
        self.assertEqual(asked(*before, begins(1, 1, 9), comes(0, 9))[-3:], [[-5], [1], [0]])


if __name__ == "__main__":
    unittest.main()

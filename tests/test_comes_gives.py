"""Promise 2: comes, gives."""

import unittest

from calling import MOST_NUMBER, asked, begins, comes, gives, last, limit, shut, ticks, times_of_leaving


class Comes(unittest.TestCase):

    def test_numbers_go_through_both_sides(self):
        met = asked(begins(1, 1, 9), comes(0, 9), comes(1, 1), comes(1, 4), comes(0, 2))
        self.assertEqual(met, [[1], [0], [1], [2], [3]])

    def test_numbers_go_on_when_some_have_gone(self):
        met = asked(begins(1, 1, 9), comes(0, 9), ticks(2), comes(0, 9), gives(1), comes(0, 9))
        self.assertEqual(met[-3:], [[1], [0], [2]])

    def test_side(self):
        for side, answer in ((0, 0), (1, 0), (2, -1), (MOST_NUMBER, -1)):
            self.assertEqual(last(begins(1, 1, 9), comes(side, 9)), [answer], side)

    def test_each_side_is_the_side_it_is_called(self):
        met = times_of_leaving(4, begins(1, 1, 9), comes(1, 9), comes(0, 9))
        self.assertEqual(met, [(2, 1), (3, 0)])

    def test_weight(self):
        for weight, answer in ((0, -1), (1, 0), (1000, 0), (1001, -1), (MOST_NUMBER, -1)):
            self.assertEqual(last(begins(1, 1, 1000), comes(0, weight)), [answer], weight)

    def test_weight_and_the_least_limit(self):
        for spans in ((2, 50, 1, 900, 2, 100), (1, 900, 2, 50, 2, 100), (2, 100, 1, 900, 1, 50)):
            for weight, answer in ((49, 0), (50, 0), (51, -6), (100, -6), (1000, -6), (1001, -1)):
                self.assertEqual(last(begins(1, *spans), comes(1, weight)), [answer], (spans, weight))

    def test_the_60th_and_the_61st(self):
        met = asked(begins(1, 1, 9), *[comes(number % 2, 9) for number in range(62)])
        self.assertEqual(met[1:], [[number] for number in range(60)] + [[-5], [-5]])

    def test_those_that_have_gone_are_counted_among_the_60(self):
        before = (begins(1, 1, 9), *[comes(0, 9)] * 60, ticks(61), comes(0, 9))
        self.assertEqual(asked(*before)[-2:], [[61, 60] + list(range(60)), [-5]])
        self.assertEqual(last(begins(1, 1, 9), *[comes(0, 9)] * 60, gives(3), comes(0, 9)), [-5])
        self.assertEqual(last(begins(1, 1, 9), *[comes(0, 9)] * 60, limit(0, 8), comes(0, 8)), [-5])

    def test_refused_ones_are_not_counted_among_the_60(self):
        refused = (comes(2, 9), comes(0, 0), comes(0, 10), comes(1, 1001))
        met = asked(begins(1, 1, 9), *refused, *[comes(0, 9)] * 60)
        self.assertEqual(met[1:5], [[-1], [-1], [-6], [-1]])
        self.assertEqual(met[5:], [[number] for number in range(60)])

    def test_of_several_refusals_the_first(self):
        full = (begins(1, 1, 9), *[comes(0, 9)] * 60)
        self.assertEqual(last(*full, comes(2, 9)), [-1])
        self.assertEqual(last(*full, comes(0, 0)), [-1])
        self.assertEqual(last(*full, comes(1, 1001)), [-1])
        self.assertEqual(last(*full, comes(0, 10)), [-5])
        self.assertEqual(last(begins(1, 1, 9), comes(2, 10)), [-1])
        self.assertEqual(last(begins(1, 1, 9), comes(0, 1001)), [-1])

    def test_a_refused_one_does_not_wait(self):
        before = (begins(1, 1, 9), comes(0, 9), comes(1, 9))
        refused = (comes(2, 9), comes(0, 10), comes(1, 0), comes(1, MOST_NUMBER))
        met = asked(*before, *refused, gives(0), ticks(9), comes(0, 9))
        self.assertEqual(met[len(before):], [[-1], [-6], [-1], [-1], [1], [9, 1, 1], [2]])


class Gives(unittest.TestCase):

    def test_how_many_wait_at_both_sides(self):
        before = (begins(1, 1, 9), comes(0, 9), comes(1, 9), comes(0, 9), comes(1, 9))
        met = asked(*before, gives(2), gives(1), gives(0), gives(3))
        self.assertEqual(met[len(before):], [[3], [2], [1], [0]])

    def test_those_on_the_bridge_are_not_counted(self):
        before = (begins(3, 5, 90), comes(0, 9), comes(0, 9), comes(0, 9), comes(1, 9), ticks(2))
        self.assertEqual(last(*before, gives(2)), [1])

    def test_a_number_that_has_not_come(self):
        for number in (1, 2, 60, MOST_NUMBER):
            self.assertEqual(last(begins(1, 1, 9), comes(0, 9), gives(number)), [-2], number)
        self.assertEqual(last(begins(1, 1, 9), gives(0)), [-2])
        self.assertEqual(last(begins(1, 1, 9), comes(0, 10), gives(0)), [-2])

    def test_one_on_the_bridge(self):
        for side in (0, 1):
            before = (begins(1, 2, 9), comes(side, 9), ticks(1))
            self.assertEqual(asked(*before, gives(0), ticks(2))[-2:], [[-4], [3, 1, 0]])

    def test_one_that_has_left(self):
        for side in (0, 1):
            self.assertEqual(last(begins(1, 1, 9), comes(side, 9), ticks(2), gives(0)), [-4])

    def test_one_that_gave_up(self):
        met = asked(begins(1, 1, 9), comes(0, 9), comes(1, 9), gives(0), gives(0), gives(1), gives(1))
        self.assertEqual(met[-4:], [[1], [-4], [0], [-4]])

    def test_one_that_was_sent_away(self):
        met = asked(begins(1, 1, 9), comes(0, 9), comes(0, 3), limit(0, 4), gives(0), gives(1))
        self.assertEqual(met[-3:], [[1, 1, 0], [-4], [0]])

    def test_one_that_gave_up_never_enters(self):
        before = (begins(1, 1, 9), comes(0, 9), comes(0, 9), comes(0, 9), gives(1))
        self.assertEqual(last(*before, ticks(9)), [9, 2, 0, 2])

    def test_the_first_one_giving_up_makes_room_for_the_next(self):
        before = (begins(1, 3, 9), comes(0, 5), comes(0, 6), comes(0, 4))
        self.assertEqual(times_of_leaving(12, *before), [(4, 0), (7, 1), (10, 2)])
        self.assertEqual(times_of_leaving(12, *before, gives(1)), [(4, 0), (5, 2)])

    def test_a_side_that_all_gave_up_does_not_end_a_turn(self):
        before = (begins(1, 1, 9), comes(0, 9), comes(1, 9), comes(0, 9))
        self.assertEqual(times_of_leaving(6, *before), [(2, 0), (3, 1), (4, 2)])
        self.assertEqual(times_of_leaving(6, *before, gives(1)), [(2, 0), (3, 2)])
        met = times_of_leaving(6, begins(2, 1, 9), comes(0, 9), comes(1, 9), gives(0))
        self.assertEqual(met, [(2, 1)])

    def test_a_refused_one_leaves_all_as_it_was(self):
        before = (begins(1, 2, 9), comes(0, 9), comes(1, 9), ticks(1))
        without = asked(*before, ticks(1), ticks(9), shut(0))
        met = asked(*before, gives(0), gives(2), ticks(1), gives(0), ticks(9), shut(0))
        self.assertEqual(met, without[:4] + [[-4], [-2], without[4], [-4]] + without[5:])


if __name__ == "__main__":
    unittest.main()

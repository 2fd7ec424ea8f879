"""Promise 3: ticks, and the three steps of a tick."""

import unittest

from calling import MOST_NUMBER, asked, begins, comes, gives, last, limit, shut, ticks, times_of_leaving


class WhatItAnswers(unittest.TestCase):

    def test_how_many(self):
        refused = [-1]
        for many, answer in ((0, refused), (1, [1, 0]), (1000, [1000, 0]), (1001, refused), (MOST_NUMBER, refused)):
            self.assertEqual(last(begins(1, 1, 9), ticks(many)), answer, many)

    def test_time_goes_on(self):
        self.assertEqual(asked(ticks(3), ticks(1), ticks(1000), ticks(1000)), [[3, 0], [4, 0], [1004, 0], [2004, 0]])

    def test_a_refused_one_leaves_all_as_it_was(self):
        before = (begins(1, 2, 9), comes(0, 9), ticks(2))
        met = asked(*before, ticks(0), ticks(1001), ticks(1))
        self.assertEqual(met[len(before):], [[-1], [-1], [3, 1, 0]])

    def test_those_that_left_meanwhile_alone(self):
        before = (begins(20, 1, 9), *[comes(0, 9)] * 5)
        met = asked(*before, ticks(3), ticks(1), ticks(2), ticks(1))
        self.assertEqual(met[len(before):], [[3, 2, 0, 1], [4, 1, 2], [6, 2, 3, 4], [7, 0]])

    def test_in_the_order_in_which_they_left(self):
        sides = (1, 1, 0, 0, 1, 0)
        before = (begins(2, 3, 9), *[comes(side, 3) for side in sides])
        self.assertEqual(last(*before, ticks(30)), [30, 6, 2, 3, 0, 1, 5, 4])


class MovingOn(unittest.TestCase):

    def test_one_cell_a_tick(self):
        for side in (0, 1):
            for cells in range(1, 6):
                met = times_of_leaving(8, begins(1, cells, 9), comes(side, 9))
                self.assertEqual(met, [(cells + 1, 0)], (side, cells))

    def test_through_all_spans(self):
        for side in (0, 1):
            met = times_of_leaving(70, begins(1, *[5, 7] * 12), comes(side, 7))
            self.assertEqual(met, [(61, 0)], side)
            met = times_of_leaving(20, begins(1, 2, 9, 1, 8, 3, 7), comes(side, 7))
            self.assertEqual(met, [(7, 0)], side)

    def test_one_behind_another(self):
        for side in (0, 1):
            met = times_of_leaving(20, begins(1, 3, 9, 2, 9), *[comes(side, 1)] * 4)
            self.assertEqual(met, [(6, 0), (7, 1), (8, 2), (9, 3)], side)

    def test_into_a_span_that_bears_too_much(self):
        # The second one stands in front of the span with the limit 5 until the first one has left it.
        met = times_of_leaving(12, begins(1, 2, 10, 2, 5), comes(0, 5), comes(0, 5))
        self.assertEqual(met, [(5, 0), (7, 1)])
        met = times_of_leaving(12, begins(1, 2, 5, 2, 10), comes(1, 5), comes(1, 5))
        self.assertEqual(met, [(5, 0), (7, 1)])

    def test_just_as_much_as_the_limit(self):
        for side, spans in ((0, (2, 10, 2, 5)), (1, (2, 5, 2, 10))):
            met = times_of_leaving(12, begins(1, *spans), comes(side, 2), comes(side, 3))
            self.assertEqual(met, [(5, 0), (6, 1)], side)
            met = times_of_leaving(12, begins(1, *spans), comes(side, 3), comes(side, 3))
            self.assertEqual(met, [(5, 0), (7, 1)], side)

    def test_a_span_bears_all_that_are_in_it(self):
        # Two of weight 2 are in the last span, when the third one would be the one too many.
        met = times_of_leaving(15, begins(1, 1, 9, 3, 5), *[comes(0, 2)] * 3)
        self.assertEqual(met, [(5, 0), (6, 1), (8, 2)])
        met = times_of_leaving(15, begins(1, 1, 9, 3, 6), *[comes(0, 2)] * 3)
        self.assertEqual(met, [(5, 0), (6, 1), (7, 2)])

    def test_one_that_stays_holds_up_those_behind(self):
        for side, spans in ((0, (2, 20, 2, 5)), (1, (2, 5, 2, 20))):
            met = times_of_leaving(15, begins(1, *spans), *[comes(side, 5)] * 4)
            self.assertEqual(met, [(5, 0), (7, 1), (9, 2), (11, 3)], side)

    def test_no_two_are_in_one_cell(self):
        # The third one may be in the last span along with the second one, but is to come there behind it.
        for side, spans in ((0, (2, 20, 2, 5)), (1, (2, 5, 2, 20))):
            met = times_of_leaving(15, begins(1, *spans), comes(side, 5), comes(side, 4), comes(side, 1))
            self.assertEqual(met, [(5, 0), (7, 1), (8, 2)], side)

    def test_a_limit_is_that_of_the_span_that_is_gone_to(self):
        # The middle span bears one alone, those at both ends bear two.
        for side in (0, 1):
            met = times_of_leaving(20, begins(1, 2, 8, 2, 4, 2, 8), comes(side, 4), comes(side, 4))
            self.assertEqual(met, [(7, 0), (9, 1)], side)

    def test_within_a_span_that_bears_all_it_may(self):
        met = times_of_leaving(20, begins(1, 5, 9), comes(0, 4), comes(0, 5))
        self.assertEqual(met, [(6, 0), (7, 1)])


class Entering(unittest.TestCase):

    def test_just_as_much_as_the_limit(self):
        for side in (0, 1):
            met = times_of_leaving(12, begins(1, 3, 10), comes(side, 6), comes(side, 4))
            self.assertEqual(met, [(4, 0), (5, 1)], side)
            met = times_of_leaving(12, begins(1, 3, 10), comes(side, 6), comes(side, 5))
            self.assertEqual(met, [(4, 0), (7, 1)], side)

    def test_what_other_spans_bear_does_not_count(self):
        met = times_of_leaving(12, begins(1, 1, 5, 3, 10), comes(0, 5), comes(0, 5))
        self.assertEqual(met, [(5, 0), (6, 1)])
        met = times_of_leaving(12, begins(1, 3, 10, 1, 5), comes(1, 5), comes(1, 5))
        self.assertEqual(met, [(5, 0), (6, 1)])

    def test_a_light_one_does_not_go_past_a_heavy_one(self):
        met = times_of_leaving(12, begins(1, 3, 10), comes(0, 6), comes(0, 5), comes(0, 4))
        self.assertEqual(met, [(4, 0), (7, 1), (8, 2)])

    def test_the_first_cell_may_be_taken(self):
        # The second one can't move on from the first cell into the span with the limit 5 for a while.
        for side, spans in ((0, (1, 99, 3, 5)), (1, (3, 5, 1, 99))):
            met = times_of_leaving(15, begins(1, *spans), *[comes(side, 5)] * 3)
            self.assertEqual(met, [(5, 0), (8, 1), (11, 2)], side)
            before = (begins(1, *spans), comes(side, 5), comes(side, 4), comes(side, 1))
            self.assertEqual(times_of_leaving(15, *before), [(5, 0), (8, 1), (9, 2)], side)
            # How many are on the bridge, and that the third one waits until the first one has left.
            met = asked(*before, ticks(3), shut(0), ticks(1), shut(0), ticks(1), shut(0))
            self.assertEqual(met[4:], [[3, 0], [2], [4, 0], [2], [5, 1, 0], [2]], side)
            self.assertEqual(last(*before, ticks(4), gives(2)), [0], side)
            self.assertEqual(last(*before, ticks(5), gives(2)), [-4], side)

    def test_one_a_tick(self):
        met = times_of_leaving(9, begins(5, 1, 9), comes(0, 1), comes(0, 1), comes(0, 1))
        self.assertEqual(met, [(2, 0), (3, 1), (4, 2)])

    def test_at_the_tick_behind_the_coming(self):
        met = asked(begins(1, 1, 9), ticks(4), comes(0, 9), ticks(1), ticks(1))
        self.assertEqual(met[-2:], [[5, 0], [6, 1, 0]])


class TheTurn(unittest.TestCase):

    def test_left_is_open_at_first(self):
        self.assertEqual(times_of_leaving(9, begins(1, 2, 9), comes(1, 9), comes(0, 9)), [(3, 1), (5, 0)])

    def test_goes_over_from_both_sides(self):
        met = times_of_leaving(9, begins(1, 2, 10), comes(0, 5), comes(1, 5), comes(0, 5))
        self.assertEqual(met, [(3, 0), (5, 1), (7, 2)])

    def test_goes_over_at_once_if_nobody_waits_at_the_open_side(self):
        self.assertEqual(times_of_leaving(9, begins(20, 1, 9), comes(1, 9)), [(2, 0)])
        met = asked(begins(20, 1, 9), comes(1, 9), ticks(5), comes(0, 9), ticks(1), ticks(1))
        self.assertEqual(met[-2:], [[6, 0], [7, 1, 1]])

    def test_as_many_enter_as_a_turn_is(self):
        sides = (0, 0, 0, 1, 1, 1)
        met = last(begins(2, 1, 9), *[comes(side, 9) for side in sides], ticks(20))
        self.assertEqual(met, [20, 6, 0, 1, 3, 4, 2, 5])
        met = last(begins(1, 1, 9), *[comes(side, 9) for side in sides], ticks(20))
        self.assertEqual(met, [20, 6, 0, 3, 1, 4, 2, 5])

    def test_the_greatest_turn(self):
        sides = [0] * 22 + [1] * 22
        met = last(begins(20, 1, 9), *[comes(side, 9) for side in sides], ticks(99))
        self.assertEqual(met, [99, 44] + list(range(20)) + list(range(22, 42)) + [20, 21, 42, 43])

    def test_nobody_enters_once_it_is_over_while_some_are_on_the_bridge(self):
        met = times_of_leaving(20, begins(2, 4, 99), *[comes(0, 1)] * 3, comes(1, 1))
        self.assertEqual(met, [(5, 0), (6, 1), (10, 3), (14, 2)])

    def test_is_not_over_while_nobody_waits_at_the_other_side(self):
        met = times_of_leaving(9, begins(1, 2, 99), *[comes(0, 1)] * 4)
        self.assertEqual(met, [(3, 0), (4, 1), (5, 2), (6, 3)])

    def test_is_over_as_soon_as_one_comes_to_the_other_side(self):
        # Three have entered by then, more than a turn is.
        before = (begins(2, 4, 99), *[comes(0, 1)] * 4, ticks(3), comes(1, 1))
        self.assertEqual(last(*before, ticks(20)), [23, 5, 0, 1, 2, 4, 3])
        self.assertEqual(times_of_leaving(12, *before), [(5, 0), (6, 1), (7, 2), (11, 4), (15, 3)])

    def test_is_not_over_before_as_many_have_entered(self):
        before = (begins(4, 4, 99), *[comes(0, 1)] * 4, ticks(3), comes(1, 1))
        self.assertEqual(last(*before, ticks(20)), [23, 5, 0, 1, 2, 3, 4])

    def test_goes_on_for_those_that_come_later(self):
        # Nobody waits for a while, but the open side's turn ends when the bridge is empty alone.
        before = (begins(3, 3, 99), comes(0, 1), comes(1, 1), ticks(2), comes(0, 1))
        self.assertEqual(times_of_leaving(12, *before), [(4, 0), (6, 2), (9, 1)])

    def test_none_has_entered_from_the_side_that_is_opened(self):
        sides = (0, 0, 1, 1, 0, 0, 1, 1)
        met = last(begins(2, 1, 9), *[comes(side, 9) for side in sides], ticks(20))
        self.assertEqual(met, [20, 8, 0, 1, 2, 3, 4, 5, 6, 7])

    def test_stays_where_it_is_on_an_empty_bridge(self):
        # Right is open since the first one, and nobody waits at either side for a while.
        before = (begins(2, 1, 9), comes(1, 9), ticks(9), comes(0, 9), comes(1, 9))
        self.assertEqual(times_of_leaving(4, *before), [(11, 2), (12, 1)])

    def test_nobody_waits_for_ever(self):
        crowd = [comes(0, 1)] * 30 + [comes(1, 1)] + [comes(0, 1)] * 20
        self.assertEqual(last(begins(7, 2, 9), *crowd, ticks(17))[2:], [0, 1, 2, 3, 4, 5, 6, 30, 7, 8, 9, 10, 11])


class TheSteps(unittest.TestCase):

    def test_leaving_opening_and_entering_at_one_tick(self):
        met = times_of_leaving(9, begins(1, 1, 9), comes(0, 9), comes(1, 9), comes(0, 9), comes(1, 9))
        self.assertEqual(met, [(2, 0), (3, 1), (4, 2), (5, 3)])

    def test_those_on_the_bridge_are_ahead_of_who_enters(self):
        # The first cell is left at the tick at which the next one enters it.
        self.assertEqual(times_of_leaving(9, begins(1, 2, 9), comes(0, 4), comes(0, 5)), [(3, 0), (4, 1)])

    def test_no_moving_on_at_the_tick_of_entering(self):
        self.assertEqual(asked(comes(0, 1), ticks(1), gives(0), ticks(1)), [[0], [1, 0], [-4], [2, 1, 0]])

    def test_the_other_side_is_not_opened_while_one_is_on_the_bridge(self):
        before = (begins(1, 5, 9), comes(0, 1), ticks(1), comes(1, 1), ticks(4), shut(1))
        self.assertEqual(asked(*before, ticks(1), shut(1), shut(0), ticks(1), shut(0))[-5:],
                         [[6, 1, 0], [0], [0], [7, 0], [1]])

    def test_a_new_limit_holds_for_the_ticks_from_then_on(self):
        before = (begins(1, 2, 10, 2, 5), limit(1, 10), comes(0, 5), comes(0, 5))
        self.assertEqual(times_of_leaving(12, *before), [(5, 0), (6, 1)])
        before = (begins(1, 2, 10, 2, 10), limit(1, 9), comes(0, 5), comes(0, 5))
        self.assertEqual(times_of_leaving(12, *before), [(5, 0), (7, 1)])
        before = (begins(1, 3, 10), limit(0, 9), comes(1, 5), comes(1, 5))
        self.assertEqual(times_of_leaving(12, *before), [(4, 0), (7, 1)])


if __name__ == "__main__":
    unittest.main()

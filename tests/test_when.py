"""Promise 4: when."""

import time
import unittest

from calling import MOST_NUMBER, asked, begins, comes, gives, last, limit, shut, tick_by_tick, ticks, when, where


def whens(*calls, many):
    """Behind some calls: what when answers for each of so many vehicles."""
    met = asked(*calls, *[when(number) for number in range(many)])[len(calls):]
    return [answer[0] for answer in met if len(answer) == 1]


def many_ticks(many):
    """Calls of ticks that are so many together: one alone has 1000 at most."""
    return [ticks(1000)] * (many // 1000) + [ticks(left) for left in [many % 1000] if left > 0]


class WhoHasNotCome(unittest.TestCase):

    def test_before_anybody_came(self):
        for number in (0, 1, 60, MOST_NUMBER):
            self.assertEqual(asked(when(number)), [[-2]], number)

    def test_behind_some_that_came(self):
        for number, answer in ((0, 2), (1, -2), (2, -2), (MOST_NUMBER, -2)):
            self.assertEqual(last(begins(1, 1, 9), comes(0, 9), when(number)), [answer], number)

    def test_while_it_is_shut(self):
        self.assertEqual(last(shut(1), comes(0, 1), when(1)), [-2])

    def test_behind_a_begins_that_makes_all_new(self):
        self.assertEqual(last(begins(1, 1, 9), comes(0, 9), begins(1, 1, 9), when(0)), [-2])


class WhoWaits(unittest.TestCase):

    def test_the_first_one_at_each_side(self):
        for side in (0, 1):
            self.assertEqual(asked(comes(side, 1), when(0)), [[0], [2]], side)
            for cells in range(1, 6):
                self.assertEqual(last(begins(1, cells, 9), comes(side, 9), when(0)), [cells + 1], (side, cells))
            self.assertEqual(last(begins(1, *[5, 9] * 12), comes(side, 9), when(0)), [61], side)

    def test_one_at_the_other_side(self):
        # The left side is open, so the right one is opened when the bridge is empty again.
        self.assertEqual(whens(begins(1, 2, 9), comes(1, 9), comes(0, 9), many=2), [5, 3])
        self.assertEqual(whens(begins(2, 2, 9), comes(1, 9), comes(0, 9), comes(0, 9), many=3), [7, 3, 5])

    def test_behind_others(self):
        self.assertEqual(whens(begins(1, 3, 9), *[comes(0, 3)] * 4, many=4), [4, 5, 6, 7])
        self.assertEqual(whens(begins(1, 3, 9), *[comes(1, 5)] * 4, many=4), [4, 7, 10, 13])

    def test_those_behind_it_do_not_matter(self):
        before = (begins(1, 3, 9), comes(0, 3), comes(0, 3))
        self.assertEqual(whens(*before, *[comes(0, 9)] * 5, many=2), [4, 5])

    def test_turns_go_over_several_times(self):
        came = [comes(side, 9) for side in (0, 0, 0, 1, 1, 1)]
        self.assertEqual(whens(begins(1, 1, 9), *came, many=6), [2, 4, 6, 3, 5, 7])
        self.assertEqual(whens(begins(2, 1, 9), *came, many=6), [2, 3, 6, 4, 5, 7])
        self.assertEqual(whens(begins(3, 1, 9), *came, many=6), [2, 3, 4, 5, 6, 7])

    def test_as_many_as_entered_already_count_to_the_turn(self):
        before = (begins(2, 1, 9), comes(0, 9), ticks(2), comes(0, 9), comes(0, 9), comes(1, 9))
        self.assertEqual(whens(*before, many=4), [-6, 2, 4, 3])

    def test_a_span_that_bears_too_much_holds_it_up(self):
        self.assertEqual(whens(begins(1, 2, 10, 2, 5), comes(0, 5), comes(0, 5), many=2), [5, 7])
        self.assertEqual(whens(begins(1, 2, 10, 2, 5), limit(1, 10), comes(0, 5), comes(0, 5), many=2), [5, 6])
        self.assertEqual(whens(begins(1, 2, 10, 2, 10), limit(1, 9), comes(0, 5), comes(0, 5), many=2), [5, 7])

    def test_it_is_counted_from_now(self):
        before = (begins(1, 1, 9), ticks(40), comes(0, 9), comes(1, 9), comes(0, 9))
        self.assertEqual(whens(*before, many=3), [2, 3, 4])
        self.assertEqual(whens(*before, ticks(1), many=3), [1, 2, 3])

    def test_behind_one_that_gave_up(self):
        before = (begins(1, 1, 9), comes(0, 9), comes(1, 9), comes(0, 9))
        self.assertEqual(whens(*before, gives(1), many=3), [2, -6, 3])
        self.assertEqual(whens(*before, gives(0), many=3), [-6, 3, 2])

    def test_one_that_comes_later_counts_from_then_on(self):
        before = (begins(1, 1, 9), comes(0, 9), comes(0, 9))
        self.assertEqual(last(*before, when(1)), [3])
        self.assertEqual(last(*before, comes(1, 9), when(1)), [4])


class WhoIsOnTheBridge(unittest.TestCase):

    def test_cell_by_cell(self):
        for side in (0, 1):
            for truth in (0, 1):
                met = tick_by_tick(when(0), 6, begins(1, 2, 9, 2, 9), comes(side, 9), ticks(1), shut(truth))
                self.assertEqual(met, [[3], [2], [1], [-6], [-6], [-6]], (side, truth))

    def test_at_the_very_next_tick(self):
        for side in (0, 1):
            met = asked(begins(1, 1, 9), comes(side, 9), ticks(1), when(0), ticks(1), when(0))
            self.assertEqual(met[-3:], [[1], [2, 1, 0], [-6]], side)

    def test_one_that_is_held_up(self):
        before = (begins(1, 2, 10, 2, 5), comes(0, 5), comes(0, 5))
        self.assertEqual(tick_by_tick(when(1), 7, *before), [[6], [5], [4], [3], [2], [1], [-6]])


class WhoNeverWill(unittest.TestCase):

    def test_one_that_waits_while_it_is_shut(self):
        for side in (0, 1):
            before = (begins(1, 1, 9), comes(side, 9), shut(1))
            met = asked(*before, when(0), ticks(9), when(0), shut(0), when(0))
            self.assertEqual(met[len(before):], [[-6], [9, 0], [-6], [0], [2]], side)

    def test_one_on_the_bridge_and_one_behind_it_while_it_is_shut(self):
        for side in (0, 1):
            before = (begins(3, 3, 9), comes(side, 3), comes(side, 3), ticks(1), comes(1 - side, 3), shut(1))
            self.assertEqual(whens(*before, many=3), [3, -6, -6], side)

    def test_one_that_has_left(self):
        for side in (0, 1):
            self.assertEqual(last(begins(1, 1, 9), comes(side, 9), ticks(2), when(0)), [-6], side)
            self.assertEqual(last(begins(1, 1, 9), comes(side, 9), ticks(900), when(0)), [-6], side)

    def test_one_that_gave_up(self):
        for side in (0, 1):
            self.assertEqual(last(begins(1, 1, 9), comes(side, 9), gives(0), when(0)), [-6], side)
            self.assertEqual(last(begins(1, 1, 9), comes(side, 9), gives(0), ticks(9), when(0)), [-6], side)

    def test_one_that_was_sent_away(self):
        for side in (0, 1):
            self.assertEqual(last(begins(1, 1, 9), comes(side, 9), limit(0, 8), when(0)), [-6], side)
            self.assertEqual(last(begins(1, 1, 9), comes(side, 9), limit(0, 8), limit(0, 9), when(0)), [-6], side)


class ALongWay(unittest.TestCase):

    before = (begins(1, *[5, 1000] * 12), *[comes(number % 2, 1000) for number in range(60)])

    def test_59_that_wait_before_it(self):
        # One enters at the tick at which the one before it leaves, 60 ticks behind the tick at which that one entered.
        self.assertEqual(last(*self.before, when(59)), [3601])
        self.assertEqual(last(*self.before, when(58)), [3541])

    def test_many_such_calls_in_one_list(self):
        begun = time.process_time()
        met = asked(*self.before, *[when(59)] * 19)
        self.assertLess(time.process_time() - begun, 10)
        self.assertEqual(met[-19:], [[3601]] * 19)

    def test_it_leaves_just_then(self):
        self.assertEqual(last(*self.before, *many_ticks(3600), where(59)), [1, 1, 0])
        met = asked(*self.before, *many_ticks(3600), when(59), ticks(1), where(59))
        self.assertEqual(met[-3:], [[1], [3601, 1, 59], [2, 1, 3601]])

    def test_a_crowd_from_one_side(self):
        # 60 light ones are on the bridge at once; one of the greatest weight has each span for itself.
        light = (begins(1, *[5, 1000] * 12), *[comes(1, 1)] * 60)
        self.assertEqual(last(*light, when(59)), [120])
        heavy = (begins(1, *[5, 1000] * 12), *[comes(1, 1000)] * 60)
        self.assertEqual(last(*heavy, when(59)), [61 + 59 * 5])


class TheSameTicks(unittest.TestCase):

    crowds = (
        (begins(1, 1, 9), (0, 9), (1, 9), (0, 9), (0, 9), (1, 9)),
        (begins(2, 2, 9, 3, 7), (0, 3), (0, 4), (1, 7), (0, 6), (1, 1), (1, 2), (0, 7)),
        (begins(3, 1, 20, 4, 8, 2, 11), (1, 8), (1, 4), (1, 4), (0, 2), (0, 7), (1, 3), (0, 5), (0, 1), (1, 8)),
        (begins(20, 5, 30, 5, 10, 5, 30), *[(number % 3 % 2, number % 7 + 3) for number in range(18)]),
    )

    def test_it_leaves_just_then(self):
        for first, *crowd in self.crowds:
            for past in (0, 1, 3, 8):
                before = [first] + [comes(*one) for one in crowd] + [ticks(1)] * past
                for number, many in enumerate(whens(*before, many=len(crowd))):
                    if many > 0:
                        self.leaves_just_then(before, number, past, many)
                    else:
                        self.assertEqual((many, last(*before, where(number))[0]), (-6, 2))

    def leaves_just_then(self, before, number, past, many):
        told = (before, number)
        self.assertNotEqual(last(*before, *many_ticks(many - 1), where(number))[0], 2, told)
        self.assertEqual(last(*before, *many_ticks(many), where(number)), [2, 1, past + many], told)


if __name__ == "__main__":
    unittest.main()

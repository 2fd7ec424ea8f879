"""Promise 4: where."""

import unittest

from calling import MOST_NUMBER, asked, begins, comes, gives, last, limit, shut, tick_by_tick, ticks, where


class WhoHasNotCome(unittest.TestCase):

    def test_before_anybody_came(self):
        for number in (0, 1, 59, 60, MOST_NUMBER):
            self.assertEqual(asked(where(number)), [[-2]], number)
            self.assertEqual(last(begins(1, 1, 9), where(number)), [-2], number)

    def test_behind_some_that_came(self):
        for number, answer in ((0, [0, 1, 0]), (1, [0, 1, 0]), (2, [-2]), (3, [-2]), (MOST_NUMBER, [-2])):
            self.assertEqual(last(begins(1, 1, 9), comes(0, 9), comes(1, 9), where(number)), answer, number)

    def test_behind_the_60_that_may_come(self):
        full = (begins(1, 1, 9), *[comes(0, 9)] * 60, comes(0, 9))
        self.assertEqual(asked(*full, where(59), where(60))[-2:], [[0, 1, 59], [-2]])

    def test_a_refused_one_has_not_come(self):
        for call in (comes(2, 9), comes(0, 0), comes(0, 10), comes(1, 1001)):
            self.assertEqual(last(begins(1, 1, 9), call, where(0)), [-2], call)

    def test_behind_a_begins_that_makes_all_new(self):
        before = (begins(1, 1, 9), comes(0, 9), comes(0, 9), comes(0, 9), gives(1), ticks(2), begins(1, 1, 9))
        self.assertEqual(asked(*before, where(0), where(1), where(2))[-3:], [[-2], [-2], [-2]])
        self.assertEqual(last(*before, comes(1, 9), where(0)), [0, 1, 0])

    def test_behind_a_begins_that_is_refused(self):
        before = (begins(1, 1, 9), comes(0, 9), comes(0, 9), gives(1), ticks(2), begins(0, 1, 9))
        self.assertEqual(asked(*before, where(0), where(1))[-2:], [[2, 1, 2], [3, 1, 0]])


class WhoWaits(unittest.TestCase):

    sides = (0, 1, 1, 0, 0, 1)
    before = (begins(1, 3, 9), *[comes(side, side + 5) for side in sides])
    all_of_them = tuple(where(number) for number in range(6))

    def wait_before(self, *calls):
        met = asked(*self.before, *calls, *self.all_of_them)[-6:]
        for answer in met:
            self.assertEqual(answer[1], 1)
        return [(answer[0], answer[2]) for answer in met]

    def test_those_of_its_own_side_are_counted(self):
        self.assertEqual(self.wait_before(), [(0, 0), (0, 0), (0, 1), (0, 1), (0, 2), (0, 2)])

    def test_one_that_entered_is_not_counted(self):
        self.assertEqual(self.wait_before(ticks(1)), [(1, 0), (0, 0), (0, 1), (0, 0), (0, 1), (0, 2)])

    def test_one_that_gave_up_is_not_counted(self):
        self.assertEqual(self.wait_before(gives(3)), [(0, 0), (0, 0), (0, 1), (3, 0), (0, 1), (0, 2)])
        self.assertEqual(self.wait_before(gives(5)), [(0, 0), (0, 0), (0, 1), (0, 1), (0, 2), (3, 0)])

    def test_one_that_was_sent_away_is_not_counted(self):
        self.assertEqual(self.wait_before(limit(0, 5)), [(0, 0), (4, 0), (4, 0), (0, 1), (0, 2), (4, 0)])
        self.assertEqual(last(begins(1, 1, 9), comes(0, 9), comes(0, 2), limit(0, 8), where(1)), [0, 1, 0])

    def test_while_it_is_shut(self):
        self.assertEqual(self.wait_before(shut(1), ticks(20)), [(0, 0), (0, 0), (0, 1), (0, 1), (0, 2), (0, 2)])

    def test_59_before_it(self):
        self.assertEqual(last(begins(1, 1, 9), *[comes(1, 1)] * 60, where(59)), [0, 1, 59])


class WhoIsOnTheBridge(unittest.TestCase):

    def test_one_from_the_left(self):
        met = tick_by_tick(where(0), 6, begins(1, 2, 9, 3, 9), comes(0, 9))
        self.assertEqual(met, [[1, 1, 0], [1, 1, 1], [1, 1, 2], [1, 1, 3], [1, 1, 4], [2, 1, 6]])

    def test_one_from_the_right(self):
        met = tick_by_tick(where(0), 6, begins(1, 2, 9, 3, 9), comes(1, 9))
        self.assertEqual(met, [[1, 1, 4], [1, 1, 3], [1, 1, 2], [1, 1, 1], [1, 1, 0], [2, 1, 6]])

    def test_from_both_ends_of_the_longest_bridge(self):
        longest = begins(1, *[5, 9] * 12)
        self.assertEqual(asked(longest, comes(0, 9), ticks(1), where(0), ticks(59), where(0))[-3:],
                         [[1, 1, 0], [60, 0], [1, 1, 59]])
        self.assertEqual(asked(longest, comes(1, 9), ticks(1), where(0), ticks(59), where(0))[-3:],
                         [[1, 1, 59], [60, 0], [1, 1, 0]])

    def test_one_that_is_held_up(self):
        # The span with the limit 5 bears one of the two alone.
        before = (begins(1, 2, 10, 2, 5), comes(0, 5), comes(0, 5))
        met = tick_by_tick(where(1), 7, *before)
        self.assertEqual(met, [[0, 1, 0], [1, 1, 0], [1, 1, 1], [1, 1, 1], [1, 1, 2], [1, 1, 3], [2, 1, 7]])

    def test_while_it_is_shut(self):
        met = tick_by_tick(where(0), 3, begins(1, 3, 9), comes(0, 9), ticks(1), shut(1))
        self.assertEqual(met, [[1, 1, 1], [1, 1, 2], [2, 1, 4]])


class WhoHasGone(unittest.TestCase):

    def test_one_that_has_left(self):
        for side in (0, 1):
            before = (begins(1, 2, 9), comes(side, 9))
            self.assertEqual(last(*before, ticks(3), where(0)), [2, 1, 3], side)
            self.assertEqual(last(*before, ticks(50), where(0)), [2, 1, 3], side)
            self.assertEqual(last(*before, ticks(1000), ticks(1000), where(0)), [2, 1, 3], side)

    def test_each_has_a_time_of_its_own(self):
        before = (begins(1, 1, 9), comes(0, 9), comes(1, 9), comes(0, 9), ticks(70))
        self.assertEqual(asked(*before, where(0), where(1), where(2))[-3:], [[2, 1, 2], [2, 1, 3], [2, 1, 4]])

    def test_one_that_gave_up(self):
        for side in (0, 1):
            before = (begins(1, 1, 9), shut(1), comes(side, 9))
            self.assertEqual(last(*before, gives(0), where(0)), [3, 1, 0], side)
            self.assertEqual(last(*before, gives(0), ticks(9), where(0)), [3, 1, 0], side)
            self.assertEqual(last(*before, ticks(7), gives(0), where(0)), [3, 1, 7], side)
            self.assertEqual(last(*before, ticks(7), gives(0), ticks(900), where(0)), [3, 1, 7], side)

    def test_a_refused_gives_changes_no_time(self):
        before = (begins(1, 1, 9), comes(0, 9), comes(0, 9), gives(1), ticks(4))
        self.assertEqual(asked(*before, gives(0), gives(1), where(0), where(1))[-4:],
                         [[-4], [-4], [2, 1, 2], [3, 1, 0]])

    def test_one_that_was_sent_away(self):
        for side in (0, 1):
            before = (begins(1, 1, 9), shut(1), comes(side, 9))
            self.assertEqual(last(*before, limit(0, 8), where(0)), [4, 1, 0], side)
            self.assertEqual(last(*before, limit(0, 8), ticks(9), where(0)), [4, 1, 0], side)
            self.assertEqual(last(*before, ticks(5), limit(0, 8), where(0)), [4, 1, 5], side)
            self.assertEqual(last(*before, ticks(5), limit(0, 8), ticks(900), where(0)), [4, 1, 5], side)

    def test_those_that_had_gone_are_not_sent_away_as_well(self):
        before = (begins(1, 1, 9), comes(0, 9), ticks(3), comes(0, 9), comes(0, 8), gives(1), limit(0, 7))
        self.assertEqual(asked(*before, ticks(4), limit(0, 1), where(0), where(1), where(2))[-3:],
                         [[2, 1, 2], [3, 1, 3], [4, 1, 3]])


if __name__ == "__main__":
    unittest.main()

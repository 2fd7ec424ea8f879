"""Promise 3: limit, shut."""

import unittest

from calling import MOST_NUMBER, asked, begins, comes, gives, last, limit, shut, ticks, times_of_leaving


class Limit(unittest.TestCase):

    def test_how_much(self):
        for most, answer in ((0, [-1]), (1, [0, 0]), (1000, [0, 0]), (1001, [-1]), (MOST_NUMBER, [-1])):
            self.assertEqual(last(begins(1, 2, 9, 1, 9), limit(1, most)), answer, most)

    def test_a_span_that_is_not_there(self):
        for span, answer in ((0, [0, 0]), (2, [0, 0]), (3, [-2]), (6, [-2]), (MOST_NUMBER, [-2])):
            self.assertEqual(last(begins(1, 2, 9, 5, 9, 1, 9), limit(span, 5)), answer, span)
        self.assertEqual(last(begins(1, *[1, 9] * 12), limit(11, 5)), [0, 0])
        self.assertEqual(last(begins(1, *[1, 9] * 12), limit(12, 5)), [-2])

    def test_somebody_on_the_bridge(self):
        for side in (0, 1):
            before = (begins(1, 2, 9), comes(side, 5), ticks(1))
            met = asked(*before, limit(0, 9), ticks(1), limit(0, 9), ticks(1), limit(0, 9))
            self.assertEqual(met[len(before):], [[-4], [2, 0], [-4], [3, 1, 0], [0, 0]], side)

    def test_those_that_wait_do_not_hinder_it(self):
        self.assertEqual(last(begins(1, 2, 9), comes(0, 5), comes(1, 5), limit(0, 5)), [0, 0])

    def test_of_several_refusals_the_first(self):
        before = (begins(1, 2, 9), comes(0, 5), ticks(1))
        self.assertEqual(last(*before, limit(1, 0)), [-1])
        self.assertEqual(last(*before, limit(0, 1001)), [-1])
        self.assertEqual(last(*before, limit(1, 5)), [-2])
        self.assertEqual(last(*before, limit(0, 5)), [-4])
        self.assertEqual(last(begins(1, 2, 9), limit(1, 1001)), [-1])

    def test_a_refused_one_leaves_all_as_it_was(self):
        before = (begins(1, 2, 9), comes(0, 9), comes(0, 8), comes(1, 9))
        met = asked(*before, limit(0, 0), limit(1, 3), ticks(1), limit(0, 3), ticks(9), comes(0, 9), comes(0, 10))
        self.assertEqual(met[len(before):], [[-1], [-2], [1, 0], [-4], [10, 3, 0, 2, 1], [3], [-6]])

    def test_who_is_sent_away_and_in_which_order(self):
        before = (begins(1, 2, 9), comes(0, 5), comes(1, 7), comes(0, 9), comes(0, 3), comes(1, 9), comes(0, 7))
        self.assertEqual(last(*before, limit(0, 6)), [4, 4, 1, 2, 4, 5])
        self.assertEqual(last(*before, limit(0, 7)), [2, 2, 2, 4])
        self.assertEqual(last(*before, limit(0, 8)), [2, 2, 2, 4])
        self.assertEqual(last(*before, limit(0, 9)), [0, 0])
        self.assertEqual(last(*before, limit(0, 1)), [6, 6, 0, 1, 2, 3, 4, 5])

    def test_those_that_stay_keep_their_order(self):
        before = (begins(1, 1, 9), comes(0, 5), comes(0, 7), comes(0, 4), comes(1, 3), comes(1, 9), limit(0, 6))
        self.assertEqual(last(*before, ticks(9)), [9, 3, 0, 3, 2])

    def test_nobody_is_sent_away_twice(self):
        before = (begins(1, 2, 9), comes(0, 9), comes(1, 8), comes(0, 7))
        self.assertEqual(asked(*before, limit(0, 8), limit(0, 7), limit(0, 7))[-3:], [[1, 1, 0], [1, 1, 1], [0, 0]])

    def test_those_that_do_not_wait_are_not_sent_away(self):
        before = (begins(1, 1, 9), comes(0, 9), comes(0, 9), comes(0, 9), gives(1), ticks(2), shut(1), ticks(1))
        self.assertEqual(last(*before[:5], limit(0, 1)), [2, 2, 0, 2])
        self.assertEqual(last(*before, limit(0, 1)), [0, 0])
        # The first one has left, the second one gave up.
        before = (begins(1, 1, 9), comes(0, 9), ticks(2), comes(0, 9), comes(0, 9), gives(1))
        self.assertEqual(last(*before, limit(0, 1)), [1, 1, 2])

    def test_the_least_limit_counts(self):
        before = (begins(1, 2, 8, 1, 6), comes(0, 6), comes(1, 5))
        self.assertEqual(last(*before, limit(0, 6)), [0, 0])
        self.assertEqual(last(*before, limit(0, 5)), [1, 1, 0])
        self.assertEqual(last(*before, limit(1, 5)), [1, 1, 0])
        self.assertEqual(asked(*before, limit(1, 9), comes(0, 8), comes(0, 9))[-3:], [[0, 0], [2], [-6]])
        self.assertEqual(asked(*before, limit(0, 9), comes(0, 7))[-2:], [[0, 0], [-6]])

    def test_it_holds_for_those_that_come_from_then_on(self):
        met = asked(begins(1, 1, 9), limit(0, 5), comes(0, 6), comes(0, 5), limit(0, 1000), comes(0, 1000))
        self.assertEqual(met, [[1], [0, 0], [-6], [0], [0, 0], [1]])

    def test_it_is_that_spans_limit_alone(self):
        # The last span bears one alone in any case; with the first one's limit 5 the second one is held at its side.
        crossing = (comes(0, 5), comes(0, 5))
        self.assertEqual(times_of_leaving(9, begins(1, 2, 10, 1, 10), limit(1, 5), *crossing), [(4, 0), (5, 1)])
        self.assertEqual(times_of_leaving(9, begins(1, 2, 10, 1, 10), limit(0, 5), *crossing), [(4, 0), (6, 1)])

    def test_a_side_that_all_were_sent_from_has_nobody_waiting(self):
        # Else the turn would go over to the other side, behind the first one.
        before = (begins(1, 1, 9), comes(0, 4), comes(1, 8), comes(0, 4), limit(0, 5), ticks(2), comes(1, 5))
        self.assertEqual(asked(*before, ticks(2))[-3:], [[2, 1, 0], [3], [4, 2, 2, 3]])
        self.assertEqual(last(begins(1, 1, 9), comes(0, 9), comes(1, 4), limit(0, 5), gives(1)), [0])


class Shut(unittest.TestCase):

    def test_truth(self):
        for truth, answer in ((0, 0), (1, 0), (2, -1), (MOST_NUMBER, -1)):
            self.assertEqual(last(begins(1, 1, 9), shut(truth)), [answer], truth)

    def test_how_many_are_on_the_bridge(self):
        before = (begins(3, 3, 9), *[comes(1, 3)] * 4)
        met = asked(*before, shut(0), ticks(1), shut(0), ticks(1), shut(1), ticks(2), shut(1), ticks(1), shut(0))
        self.assertEqual(met[len(before):], [[0], [1, 0], [1], [2, 0], [2], [4, 1, 0], [1], [5, 1, 1], [0]])

    def test_nobody_enters_while_it_is_shut(self):
        for side in (0, 1):
            before = (begins(1, 1, 9), comes(side, 9), shut(1))
            met = asked(*before, ticks(50), gives(2), shut(1), ticks(1), shut(0), ticks(1), ticks(1))
            self.assertEqual(met[len(before):], [[50, 0], [-2], [0], [51, 0], [0], [52, 0], [53, 1, 0]], side)

    def test_it_stays_as_it_is_when_told_so_again(self):
        self.assertEqual(last(comes(0, 1), shut(1), shut(1), ticks(3)), [3, 0])
        self.assertEqual(last(comes(0, 1), shut(0), shut(0), ticks(3)), [3, 1, 0])
        self.assertEqual(last(comes(0, 1), shut(1), shut(1), shut(0), ticks(3)), [3, 1, 0])

    def test_those_on_the_bridge_go_on(self):
        before = (begins(3, 2, 9, 2, 5), comes(0, 4), comes(0, 4), comes(0, 1), ticks(2), shut(1))
        self.assertEqual(times_of_leaving(9, *before), [(5, 0), (7, 1)])

    def test_the_other_side_is_opened_while_it_is_shut(self):
        # Nobody waits at the left when the tick goes by, so the right is open when it's unshut.
        before = (begins(1, 1, 9), comes(1, 9), shut(1), ticks(1), comes(0, 9), shut(0))
        self.assertEqual(times_of_leaving(4, *before), [(3, 0), (4, 1)])

    def test_a_turn_that_is_over_goes_over_while_it_is_shut(self):
        # The right side is opened, and when nobody waits there any more the left one anew: none has entered from it.
        before = (begins(1, 2, 9), comes(0, 9), comes(0, 9), ticks(1), shut(1), comes(1, 9), ticks(2), gives(2))
        met = times_of_leaving(6, *before, ticks(1), comes(1, 9), shut(0))
        self.assertEqual(met, [(7, 1), (9, 3)])

    def test_the_side_that_is_opened_is_not_changed_back_while_both_wait(self):
        before = (begins(1, 1, 9), comes(1, 9), shut(1), ticks(1), comes(0, 9), ticks(7), shut(0))
        self.assertEqual(times_of_leaving(4, *before), [(10, 0), (11, 1)])

    def test_a_side_that_gave_up_gives_way_while_it_is_shut(self):
        before = (begins(1, 1, 9), comes(1, 9), shut(1), ticks(1), comes(0, 9), gives(0), ticks(1), comes(1, 9))
        self.assertEqual(times_of_leaving(4, *before, shut(0)), [(4, 1), (5, 2)])

    def test_a_refused_one_leaves_all_as_it_was(self):
        self.assertEqual(last(comes(0, 1), shut(2), ticks(2)), [2, 1, 0])
        self.assertEqual(last(comes(0, 1), shut(1), shut(2), ticks(2)), [2, 0])

    def test_coming_giving_and_limits_go_on_while_it_is_shut(self):
        met = asked(begins(1, 1, 9), shut(1), comes(0, 9), comes(1, 5), gives(1), limit(0, 6))
        self.assertEqual(met, [[1], [0], [0], [1], [1], [1, 1, 0]])


if __name__ == "__main__":
    unittest.main()

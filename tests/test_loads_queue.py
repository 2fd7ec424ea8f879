"""The calls loads and queue, and promise 4 of queue."""

import unittest

from calling import MOST_NUMBER, asked, begins, comes, gives, last, limit, loads, queue, shut, tick_by_tick, ticks


class Loads(unittest.TestCase):

    # How many are on the bridge, and what the span bears at which they enter and what the other one does, by ticks.
    met = ((1, 4, 0), (2, 7, 0), (3, 9, 0), (3, 5, 4), (3, 2, 7), (2, 0, 5), (1, 0, 2), (0, 0, 0), (0, 0, 0))

    def test_before_any_begins(self):
        self.assertEqual(asked(loads()), [[0, 1, 0]])
        self.assertEqual(asked(comes(0, 1), ticks(1), loads())[-1], [1, 1, 1])

    def test_right_behind_begins(self):
        for many in range(1, 13):
            self.assertEqual(last(begins(1, *[5, 9] * many), loads()), [0, many] + [0] * many)
        self.assertEqual(last(comes(0, 1), ticks(1), begins(1, 2, 9, 3, 9), loads()), [0, 2, 0, 0])
        self.assertEqual(last(begins(1, 2, 9), comes(0, 9), ticks(1), begins(0, 1, 1), loads()), [1, 1, 9])

    def test_those_that_wait_are_not_there(self):
        self.assertEqual(last(begins(1, 2, 9, 3, 9), comes(0, 9), comes(1, 9), loads()), [0, 2, 0, 0])
        self.assertEqual(last(begins(1, 2, 9, 3, 9), comes(0, 9), comes(1, 9), ticks(1), loads()), [1, 2, 9, 0])

    def test_several_in_one_span_and_in_several(self):
        met = tick_by_tick(loads(), 9, begins(5, 3, 10, 2, 7), comes(0, 4), comes(0, 3), comes(0, 2))
        self.assertEqual(met, [[many, 2, near, far] for many, near, far in self.met])
        met = tick_by_tick(loads(), 9, begins(5, 2, 7, 3, 10), comes(1, 4), comes(1, 3), comes(1, 2))
        self.assertEqual(met, [[many, 2, far, near] for many, near, far in self.met])

    def test_spans_with_nobody_between_others(self):
        before = (begins(5, 1, 9, 1, 9, 1, 9, 1, 9), comes(0, 5), ticks(2), comes(0, 7), ticks(1))
        self.assertEqual(last(*before, loads()), [2, 4, 7, 0, 5, 0])

    def test_as_many_as_can_be(self):
        before = (begins(20, *[5, 1000] * 12), *[comes(0, 200)] * 60, ticks(60))
        self.assertEqual(last(*before, loads()), [60, 12] + [1000] * 12)

    def test_while_it_is_shut(self):
        before = (begins(1, 2, 9, 1, 9), comes(0, 4), comes(0, 5), ticks(1), shut(1))
        self.assertEqual(tick_by_tick(loads(), 3, *before), [[1, 2, 4, 0], [1, 2, 0, 4], [0, 2, 0, 0]])


class Queue(unittest.TestCase):

    before = (begins(1, 2, 9), *[comes(side, weight) for side, weight in
                                 ((0, 9), (1, 5), (0, 4), (0, 6), (1, 7), (1, 2), (0, 3))])

    def at_both(self, *calls):
        return asked(*self.before, *calls, queue(0), queue(1))[-2:]

    def test_no_side(self):
        for side, answer in ((0, [0, 0]), (1, [0, 0]), (2, [-1]), (3, [-1]), (MOST_NUMBER, [-1])):
            self.assertEqual(asked(queue(side)), [answer], side)
        for side, answer in ((0, [4, 4, 0, 2, 3, 6]), (1, [3, 3, 1, 4, 5]), (2, [-1]), (MOST_NUMBER, [-1])):
            self.assertEqual(last(*self.before, queue(side)), answer, side)

    def test_nobody_waits(self):
        self.assertEqual(asked(begins(1, 1, 9), queue(0), queue(1)), [[1], [0, 0], [0, 0]])
        self.assertEqual(self.at_both(ticks(50)), [[0, 0], [0, 0]])
        self.assertEqual(asked(begins(1, 1, 9), comes(1, 9), queue(0), queue(1))[-2:], [[0, 0], [1, 1, 0]])
        self.assertEqual(asked(begins(1, 1, 9), comes(0, 9), gives(0), queue(0), queue(1))[-2:], [[0, 0], [0, 0]])

    def test_in_the_order_of_coming(self):
        self.assertEqual(self.at_both(), [[4, 4, 0, 2, 3, 6], [3, 3, 1, 4, 5]])
        self.assertEqual(self.at_both(comes(1, 9), comes(0, 9)), [[5, 5, 0, 2, 3, 6, 8], [4, 4, 1, 4, 5, 7]])

    def test_without_those_that_entered(self):
        self.assertEqual(self.at_both(ticks(1)), [[3, 3, 2, 3, 6], [3, 3, 1, 4, 5]])
        self.assertEqual(self.at_both(ticks(3)), [[3, 3, 2, 3, 6], [2, 2, 4, 5]])

    def test_without_those_that_gave_up(self):
        self.assertEqual(self.at_both(gives(2)), [[3, 3, 0, 3, 6], [3, 3, 1, 4, 5]])
        self.assertEqual(self.at_both(gives(5), gives(0), gives(1)), [[3, 3, 2, 3, 6], [1, 1, 4]])

    def test_without_those_that_were_sent_away(self):
        self.assertEqual(self.at_both(limit(0, 5)), [[2, 2, 2, 6], [2, 2, 1, 5]])
        self.assertEqual(self.at_both(limit(0, 5), limit(0, 9)), [[2, 2, 2, 6], [2, 2, 1, 5]])

    def test_without_those_of_before_a_begins(self):
        self.assertEqual(self.at_both(begins(1, 1, 9)), [[0, 0], [0, 0]])
        self.assertEqual(self.at_both(begins(0, 1, 9)), [[4, 4, 0, 2, 3, 6], [3, 3, 1, 4, 5]])

    def test_as_many_as_can_be(self):
        self.assertEqual(last(*[comes(1, 1)] * 60, queue(1)), [60, 60] + list(range(60)))


if __name__ == "__main__":
    unittest.main()

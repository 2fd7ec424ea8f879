"""The call state."""

import unittest

from calling import asked, begins, comes, gives, last, limit, shut, state, tick_by_tick, ticks


def whole(time, turns, spans, crossing):
    """state's answer: the time, then the three lists."""
    return [time] + [number for row in (turns, spans, crossing) for number in [len(row)] + row]


class WhatItTells(unittest.TestCase):

    def test_before_any_begins(self):
        self.assertEqual(asked(state()), [[0, 5, 1, 0, 0, 0, 0, 2, 1, 1, 0]])
        self.assertEqual(asked(comes(0, 1), ticks(1), state())[-1], [1, 5, 1, 0, 1, 0, 1, 2, 1, 1, 2, 0, 0])

    def test_right_behind_begins(self):
        self.assertEqual(last(begins(7, 2, 30, 5, 400, 1, 1), state()),
                         whole(0, [7, 0, 0, 0, 0], [2, 30, 5, 400, 1, 1], []))
        self.assertEqual(last(begins(20, *[5, 1000] * 12), state()), whole(0, [20, 0, 0, 0, 0], [5, 1000] * 12, []))

    def test_a_begins_makes_all_new(self):
        before = (begins(2, 2, 9), comes(1, 9), comes(1, 4), ticks(2), shut(1))
        self.assertEqual(last(*before, state()), whole(2, [2, 1, 1, 1, 2], [2, 9], [0, 0]))
        self.assertEqual(last(*before, begins(3, 1, 8, 4, 7), state()), whole(0, [3, 0, 0, 0, 0], [1, 8, 4, 7], []))
        self.assertEqual(last(*before, begins(21, 1, 8, 4, 7), state()), last(*before, state()))

    def test_the_time(self):
        for many in (1, 5, 1000):
            self.assertEqual(last(begins(1, 1, 9), ticks(many), state()), whole(many, [1, 0, 0, 0, 0], [1, 9], []))
        self.assertEqual(last(begins(1, 1, 9), ticks(1000), ticks(0), ticks(1000), state())[0], 2000)


class WhoIsOnTheBridge(unittest.TestCase):

    def test_from_the_left(self):
        met = tick_by_tick(state(), 4, begins(5, 3, 10, 2, 7), comes(0, 4), comes(0, 3), comes(0, 2))
        spans = [3, 10, 2, 7]
        self.assertEqual(met[0], whole(1, [5, 0, 1, 0, 3], spans, [0, 0]))
        self.assertEqual(met[1], whole(2, [5, 0, 2, 0, 3], spans, [0, 1, 1, 0]))
        self.assertEqual(met[2], whole(3, [5, 0, 3, 0, 3], spans, [0, 2, 1, 1, 2, 0]))
        self.assertEqual(met[3], whole(4, [5, 0, 3, 0, 3], spans, [0, 3, 1, 2, 2, 1]))

    def test_from_the_right(self):
        met = tick_by_tick(state(), 4, begins(5, 2, 7, 3, 10), comes(1, 4), comes(1, 3), comes(1, 2))
        spans = [2, 7, 3, 10]
        self.assertEqual(met[0], whole(1, [5, 1, 1, 0, 3], spans, [0, 4]))
        self.assertEqual(met[1], whole(2, [5, 1, 2, 0, 3], spans, [0, 3, 1, 4]))
        self.assertEqual(met[2], whole(3, [5, 1, 3, 0, 3], spans, [0, 2, 1, 3, 2, 4]))
        self.assertEqual(met[3], whole(4, [5, 1, 3, 0, 3], spans, [0, 1, 1, 2, 2, 3]))

    def test_without_those_that_have_left(self):
        before = (begins(5, 3, 10, 2, 7), comes(0, 4), comes(0, 3), comes(0, 2))
        self.assertEqual(last(*before, ticks(6), state())[-5:], [4, 1, 4, 2, 3])
        self.assertEqual(last(*before, ticks(7), state())[-3:], [2, 2, 4])
        self.assertEqual(last(*before, ticks(8), state())[-1:], [0])

    def test_numbers_that_do_not_come_one_behind_another(self):
        before = (begins(5, 4, 9), comes(1, 1), comes(0, 1), comes(1, 1), comes(0, 1), comes(0, 1), gives(3))
        self.assertEqual(last(*before, ticks(3), state()), whole(3, [5, 0, 2, 0, 5], [4, 9], [1, 2, 4, 1]))

    def test_as_many_as_can_be(self):
        before = (begins(20, *[5, 1000] * 12), *[comes(0, 200)] * 60, ticks(60))
        crossing = [number for vehicle in range(60) for number in (vehicle, 59 - vehicle)]
        self.assertEqual(last(*before, state()), whole(60, [20, 0, 60, 0, 60], [5, 1000] * 12, crossing))


class TheTurn(unittest.TestCase):

    def turns(self, many, *calls):
        """Tick by tick: which side is open, and how many have entered since."""
        return [tuple(answer[3:5]) for answer in tick_by_tick(state(), many, *calls)]

    def test_how_many_have_entered_since_the_side_was_opened(self):
        came = [comes(side, 9) for side in (0, 0, 0, 1, 1, 1)]
        self.assertEqual(self.turns(8, begins(2, 1, 9), *came),
                         [(0, 1), (0, 2), (1, 1), (1, 2), (0, 1), (1, 1), (1, 1), (1, 1)])
        self.assertEqual(self.turns(7, begins(1, 1, 9), *came),
                         [(0, 1), (1, 1), (0, 1), (1, 1), (0, 1), (1, 1), (1, 1)])

    def test_more_than_a_turn(self):
        self.assertEqual(self.turns(4, begins(1, 1, 9), *[comes(0, 9)] * 3), [(0, 1), (0, 2), (0, 3), (0, 3)])

    def test_it_stays_while_somebody_is_on_the_bridge(self):
        before = (begins(1, 3, 9), comes(0, 9), comes(1, 9))
        self.assertEqual(self.turns(4, *before), [(0, 1), (0, 1), (0, 1), (1, 1)])

    def test_none_has_entered_from_a_side_that_is_opened(self):
        before = (begins(1, 1, 9), comes(0, 9), ticks(1), shut(1), comes(1, 9))
        self.assertEqual(last(*before, state()), whole(1, [1, 0, 1, 1, 2], [1, 9], [0, 0]))
        self.assertEqual(last(*before, ticks(1), state()), whole(2, [1, 1, 0, 1, 2], [1, 9], []))
        self.assertEqual(last(*before, ticks(1), shut(0), ticks(1), state()), whole(3, [1, 1, 1, 0, 2], [1, 9], [1, 0]))

    def test_a_side_is_opened_at_a_tick_alone(self):
        self.assertEqual(last(begins(1, 1, 9), comes(1, 9), state()), whole(0, [1, 0, 0, 0, 1], [1, 9], []))


class TheRest(unittest.TestCase):

    def test_shut_and_not_shut(self):
        calls = (state(), shut(1), state(), shut(1), state(), shut(2), state(), shut(0), state(), shut(0), state())
        self.assertEqual([answer[5] for answer in asked(*calls)[::2]], [0, 1, 1, 1, 0, 0])

    def test_limits_as_a_call_of_limit_left_them(self):
        before = (begins(1, 2, 9, 3, 8), limit(0, 1000), limit(1, 7))
        self.assertEqual(last(*before, state()), whole(0, [1, 0, 0, 0, 0], [2, 1000, 3, 7], []))
        before = (begins(1, 2, 9, 3, 8), limit(0, 0), limit(2, 5), comes(0, 1), ticks(1), limit(0, 5))
        self.assertEqual(last(*before, state()), whole(1, [1, 0, 1, 0, 1], [2, 9, 3, 8], [0, 0]))
        self.assertEqual(last(limit(0, 6), state()), whole(0, [1, 0, 0, 0, 0], [1, 6], []))

    def test_how_many_came(self):
        came = [comes(0, 9), comes(1, 9), comes(0, 5), comes(0, 10), comes(2, 9)]
        self.assertEqual(last(begins(1, 1, 9), *came, state())[6], 3)
        self.assertEqual(last(begins(1, 1, 9), *came, gives(1), state())[6], 3)
        self.assertEqual(last(begins(1, 1, 9), *came, limit(0, 7), state())[6], 3)
        self.assertEqual(last(begins(1, 1, 9), *came, ticks(100), state())[6], 3)
        self.assertEqual(last(*[comes(0, 1)] * 62, state())[6], 60)


if __name__ == "__main__":
    unittest.main()

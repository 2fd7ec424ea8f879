"""The call most."""

import unittest

from calling import asked, begins, comes, gives, last, limit, most, shut, tick_by_tick, ticks


class WhatWasBorne(unittest.TestCase):

    crowd = (begins(5, 3, 10, 2, 7), comes(0, 4), comes(0, 3), comes(0, 2))

    def test_never_anything(self):
        self.assertEqual(asked(most()), [[0, 2, 0, 0]])
        for many in range(1, 13):
            self.assertEqual(last(begins(1, *[1, 9] * many), ticks(5), most()), [0, 2 * many] + [0] * 2 * many)

    def test_before_any_begins(self):
        self.assertEqual(asked(comes(0, 1), ticks(1), most())[-1], [0, 2, 1, 1])
        self.assertEqual(asked(ticks(7), comes(1, 1), ticks(5), most())[-1], [0, 2, 1, 8])

    def test_of_each_span_with_its_time(self):
        met = tick_by_tick(most(), 7, *self.crowd)
        self.assertEqual(met[:3], [[0, 4, 4, 1, 0, 0], [0, 4, 7, 2, 0, 0], [0, 4, 9, 3, 0, 0]])
        self.assertEqual(met[3:5], [[0, 4, 9, 3, 4, 4], [0, 4, 9, 3, 7, 5]])
        self.assertEqual(met[5:], [[0, 4, 9, 3, 7, 5]] * 2)

    def test_from_the_right(self):
        crowd = (begins(5, 2, 7, 3, 10), comes(1, 4), comes(1, 3), comes(1, 2))
        self.assertEqual(last(*crowd, ticks(4), most()), [0, 4, 4, 4, 9, 3])
        self.assertEqual(last(*crowd, ticks(99), most()), [0, 4, 7, 5, 9, 3])

    def test_many_ticks_at_once(self):
        self.assertEqual(last(*self.crowd, ticks(5), most()), [0, 4, 9, 3, 7, 5])
        self.assertEqual(last(*self.crowd, ticks(1000), ticks(1000), most()), [0, 4, 9, 3, 7, 5])

    def test_the_time_when_it_was_first(self):
        # The span bears 5 again and again, but it bore that at the time 1 already.
        before = (begins(1, 1, 9), comes(0, 5), comes(0, 5), comes(1, 5), comes(1, 3))
        self.assertEqual(tick_by_tick(most(), 6, *before), [[0, 2, 5, 1]] * 6)
        self.assertEqual(last(*before, ticks(6), comes(0, 5), ticks(3), most()), [0, 2, 5, 1])

    def test_more_than_before(self):
        before = (begins(1, 1, 9), comes(0, 5), comes(0, 6), comes(1, 6), comes(1, 9), ticks(1))
        self.assertEqual(tick_by_tick(most(), 3, *before), [[0, 2, 6, 2], [0, 2, 6, 2], [0, 2, 9, 4]])

    def test_at_the_end_of_a_tick_alone(self):
        # One leaves and one enters at the same tick: the span never bears both at its end.
        before = (begins(1, 1, 9), comes(0, 4), comes(0, 4))
        self.assertEqual(last(*before, ticks(2), most()), [0, 2, 4, 1])
        # Those that wait aren't borne, and no call but a tick makes the most another one.
        self.assertEqual(last(*before, most()), [0, 2, 0, 0])
        self.assertEqual(last(*before, ticks(1), comes(0, 5), most()), [0, 2, 4, 1])

    def test_one_that_goes_on_is_borne_by_one_span_at_a_time(self):
        before = (begins(1, 1, 9, 1, 9, 1, 9), comes(0, 5))
        self.assertEqual(tick_by_tick(most(), 4, *before), [[0, 6, 5, 1, 0, 0, 0, 0], [0, 6, 5, 1, 5, 2, 0, 0],
                                                           [0, 6, 5, 1, 5, 2, 5, 3], [0, 6, 5, 1, 5, 2, 5, 3]])

    def test_as_much_as_can_be(self):
        before = (begins(20, *[5, 1000] * 12), *[comes(0, 200)] * 60, ticks(500))
        whole = [number for span in range(12) for number in (1000, 5 * span + 5)]
        self.assertEqual(last(*before, most()), [0, 24] + whole)


class WhatChangesIt(unittest.TestCase):

    before = (begins(1, 1, 9, 1, 8), comes(0, 8), comes(0, 7), comes(1, 8), ticks(1))

    def test_another_begins_makes_it_new(self):
        self.assertEqual(last(*self.before, most()), [0, 4, 8, 1, 0, 0])
        self.assertEqual(last(*self.before, begins(1, 1, 9, 1, 8), most()), [0, 4, 0, 0, 0, 0])
        self.assertEqual(last(*self.before, begins(1, 2, 5), most()), [0, 2, 0, 0])
        self.assertEqual(last(*self.before, begins(1, 2, 5), comes(0, 3), ticks(9), most()), [0, 2, 3, 1])

    def test_a_refused_begins_does_not(self):
        self.assertEqual(last(*self.before, begins(0, 1, 9, 1, 8), most()), [0, 4, 8, 1, 0, 0])

    def test_limit_and_gives_and_shut_leave_it_as_it_was(self):
        whole = [0, 4, 8, 1, 8, 2]
        calls = (gives(1), ticks(2), most(), limit(0, 7), most(), limit(0, 1000), most(), shut(1), most(), ticks(5),
                 most(), comes(1, 8), most(), gives(3), most(), comes(2, 1), limit(9, 9), gives(9), ticks(0), most())
        met = asked(*self.before, *calls)[len(self.before):]
        self.assertEqual([answer for call, answer in zip(calls, met) if call == most()], [whole] * 8)

    def test_one_that_is_sent_away_was_never_borne(self):
        before = (begins(1, 1, 9), shut(1), comes(0, 9), ticks(4), limit(0, 8), shut(0), ticks(4))
        self.assertEqual(last(*before, most()), [0, 2, 0, 0])


if __name__ == "__main__":
    unittest.main()

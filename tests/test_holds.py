"""Promise 14: holds."""

import unittest

from holdsforsure.reports import report_holding
from tests.helper import ASKS, FOLLOWS, LEADS, THREE, ZERO_HOLDS, ZERO_LEADS
from tests.helper import begin, elapse, holds, last_told, leave, renew, run, start, stop, take, told, wish, world_of

HEAVY = [begin(0, 100, [1, 3]), wish(1)]


class Holds(unittest.TestCase):
    def test_nobody(self):
        self.assertEqual(last_told(THREE, holds()), [0, 0])
        self.assertEqual(last_told(THREE, elapse(9, [9] * 3), holds()), [9, 0])

    def test_who_leads_doesnt_hold_yet(self):
        self.assertEqual(last_told(THREE, *ZERO_LEADS, holds()), [0, 0])
        self.assertEqual(last_told(THREE, *ZERO_LEADS, renew(0), holds()), [0, 0])
        self.assertEqual(last_told(THREE, *ZERO_LEADS, renew(0), take(2), holds()), [0, 0])

    def test_one(self):
        self.assertEqual(last_told(THREE, *ZERO_HOLDS, holds()), [0, 1, 0])
        self.assertEqual(last_told(*HEAVY, holds()), [0, 0])
        self.assertEqual(last_told(*HEAVY, renew(1), holds()), [0, 1, 1])

    def test_just_below_and_at_the_very_moment(self):
        line = [THREE] + ZERO_HOLDS
        self.assertEqual(last_told(*line, elapse(99, [99] * 3), holds()), [99, 1, 0])
        self.assertEqual(last_told(*line, elapse(100, [100] * 3), holds()), [100, 0])
        self.assertEqual(last_told(*line, elapse(101, [101] * 3), holds()), [101, 0])

    def test_by_its_own_clock_and_for_the_span(self):
        # 100 * 800 / 1200 is 66 and some; its clock is at 66 when 55 to 82 have passed in truth.
        line = [begin(200, 100, [1]), wish(0), renew(0)]
        self.assertEqual(last_told(*line, elapse(80, [65]), holds()), [80, 1, 0])
        self.assertEqual(last_told(*line, elapse(80, [66]), holds()), [80, 0])
        self.assertEqual(last_told(*line, elapse(55, [66]), holds()), [55, 0])

    def test_renewed_it_holds_on(self):
        line = HEAVY + [renew(1), elapse(60, [60] * 2), renew(1)]
        self.assertEqual(last_told(*line, elapse(99, [99] * 2), holds()), [159, 1, 1])
        self.assertEqual(last_told(*line, elapse(100, [100] * 2), holds()), [160, 0])

    def test_begun_anew_it_holds_again(self):
        line = HEAVY + [renew(1), elapse(100, [100] * 2)]
        self.assertEqual(told(*line, holds(), renew(1), holds())[-3:], [[100, 0], [2], [100, 1, 1]])

    def test_a_leader_that_has_stopped(self):
        line = [THREE] + ZERO_HOLDS + [stop(0)]
        self.assertEqual(last_told(*line, holds()), [0, 0])
        self.assertEqual(last_told(*line, start(0), holds()), [0, 0])

    def test_that_others_have_stopped_is_nothing_to_it(self):
        self.assertEqual(last_told(THREE, *ZERO_HOLDS, stop(1), stop(2), holds()), [0, 1, 0])

    def test_who_has_let_go(self):
        self.assertEqual(last_told(THREE, *ZERO_HOLDS, leave(0, 1), holds()), [0, 0])

    def test_handed_over_another_holds(self):
        line = [THREE] + ZERO_HOLDS + [leave(0, 1), take(3), take(4), take(5), renew(1), take(5), take(6)]
        self.assertEqual(run(*line)[-1], 5)
        self.assertEqual(last_told(*line, holds()), [0, 1, 1])

    def test_who_hears_of_a_greater_term(self):
        # Node 2 asks for term 1, then for term 2, and its votes lie about; node 0 holds in term 1 by
        # node 1's promise, asks node 2 for one, and so hears of term 2.
        line = [THREE, wish(2), take(1), take(1), wish(2), take(4), take(4)]
        line = line + [wish(0), take(6), take(7), take(7), take(8), renew(0), take(8), take(9)]
        self.assertEqual(run(*line), [0, 2, 1, 3, 2, 1, 3, 2, 1, 3, 1, 4, 1, 1, 5])
        each = told(*line, holds(), take(8), holds(), take(8), holds())
        self.assertEqual(each[-5:], [[0, 1, 0], [1], [0, 1, 0], [6], [0, 0]])

    def test_when_the_promise_has_run_out_another_may(self):
        # Node 1 alone is most but promised node 0.
        line = [begin(0, 100, [1, 3]), wish(0), take(0), take(0), take(0), take(0), renew(0), take(0), take(0)]
        self.assertEqual(last_told(*line, holds()), [0, 1, 0])
        line = line + [elapse(100, [100] * 2), wish(1), renew(1)]
        self.assertEqual(last_told(*line, holds()), [100, 1, 1])

    def test_all_that_it_takes(self):
        # No line of calls makes one hold that doesn't lead, nor two at once, but the words tell of both.
        world = world_of([1, 1, 1])
        for place in (0, 2):
            world.nodes[place].holds_until = 5
            world.nodes[place].state = LEADS
        self.assertEqual(report_holding(world), [0, 2, 0, 2])
        for state in (FOLLOWS, ASKS):
            world.nodes[0].state = state
            self.assertEqual(report_holding(world), [0, 1, 2])

    def test_a_refused_elapse_isnt_told(self):
        self.assertEqual(last_told(THREE, elapse(9, [9] * 3), elapse(9, [9] * 2), holds()), [9, 0])


if __name__ == "__main__":
    unittest.main()

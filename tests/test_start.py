"""Promise 11: start, by which a node that had stopped begins anew and keeps still for a while."""

import unittest

from tests.helper import ASKS, FOLLOWS, LEADS, THREE, ZERO_HOLDS, ZERO_LEADS
from tests.helper import begin, elapse, fields, holds, keep, last, last_told, leave, letters, look, node, rank
from tests.helper import renew, run, start, stop, take, told, wish


def anew(clock, term, voted, rank_number, still):
    """What node answers of one that has begun anew."""
    return [1, clock, term, voted, rank_number, 0, -1, -1, -1, still, -1, 0, 0, 0, 0, 0]


class Start(unittest.TestCase):
    def test_it_runs(self):
        self.assertEqual(run(THREE, stop(1), start(1), stop(1), start(1)), [0] * 5)
        self.assertEqual(last_told(THREE, stop(1), start(1), node(1)), anew(0, 0, -1, 0, 100))

    def test_no_such_node(self):
        self.assertEqual(run(THREE, stop(2), start(3), start(9), start(2)), [0, 0, -1, -1, 0])

    def test_it_runs_already(self):
        self.assertEqual(run(THREE, start(0), stop(0), start(0), start(0), start(1)), [0, -2, 0, 0, -2, -2])

    def test_a_refusal_changes_nothing(self):
        line = [THREE] + ZERO_HOLDS
        self.assertEqual(look(*line, start(0), start(1), start(3), start(9)), look(*line))
        line = line + [stop(0)]
        self.assertEqual(look(*line, start(1), start(3)), look(*line))

    def test_the_others_and_the_row_are_as_they_were(self):
        line = [THREE] + ZERO_HOLDS + [stop(0)]
        before, after = look(*line), look(*line, start(0))
        self.assertEqual(after[:3] + after[4:], before[:3] + before[4:])


class WhatStays(unittest.TestCase):
    def begun_anew(self, line, place):
        return last_told(*line, stop(place), start(place), node(place))

    def test_after_it_led(self):
        line = [THREE, rank(0, 3)] + ZERO_HOLDS + [elapse(7, [7, 7, 7])]
        self.assertEqual(last_told(*line, node(0)),
                         [1, 7, 1, 0, 3, 2, 0, 1, 100, 0, -1, 2, 0, 1, 1, 0, 2, 0, 1, 100])
        self.assertEqual(self.begun_anew(line, 0), anew(7, 1, 0, 3, 107))

    def test_after_rounds_begun_late(self):
        line = [THREE] + ZERO_LEADS + [elapse(4, [4] * 3), renew(0), renew(0)]
        seen = fields(*line, node(0))
        self.assertEqual((seen["round"], seen["begun"]), (2, 4))
        self.assertEqual(self.begun_anew(line, 0), anew(4, 1, 0, 0, 104))

    def test_after_it_asked(self):
        line = [THREE, wish(0), take(0), take(1)]
        self.assertEqual(fields(*line, node(0))["state"], ASKS)
        self.assertEqual(self.begun_anew(line, 0), anew(0, 1, 0, 0, 100))

    def test_after_it_wished(self):
        line = [begin(0, 40, [1] * 5), wish(2), take(0), take(3)]
        self.assertEqual(fields(*line, node(2))["would"], [2, 0])
        self.assertEqual(self.begun_anew(line, 2), anew(0, 0, -1, 0, 40))

    def test_after_it_promised(self):
        line = [THREE, rank(1, 0)] + ZERO_HOLDS
        self.assertEqual(fields(*line, node(1))["promise"], [0, 1, 100])
        self.assertEqual(self.begun_anew(line, 1), anew(0, 1, 0, 0, 100))

    def test_its_vote_isnt_given_twice(self):
        # Both 0 and 2 ask in term 1. Node 1 votes for node 2; anew and free again it doesn't for node 0.
        line = [THREE, wish(0), take(0), wish(2), take(3), take(3)]
        self.assertEqual(run(*line), [0, 2, 1, 2, 1, 3])
        line = line + [take(1), take(3), stop(1), start(1), elapse(100, [100] * 3)]
        self.assertEqual(run(*line)[-5:], [3, 1, 0, 0, 100])
        row = last_told(*line, letters())
        self.assertEqual(row[19:25], [2, 1, 0, 1, 0, 0])
        self.assertEqual(last_told(*line, take(3), letters())[-6:], [3, 0, 1, 1, 0, 0])
        self.assertEqual(fields(*line, take(3), node(1))["voted"], 2)

    def test_the_clock_when_it_begins_anew_not_when_it_stopped(self):
        line = [begin(200, 50, [1, 1]), elapse(10, [8, 12]), stop(1), elapse(10, [12, 9]), start(1)]
        self.assertEqual(last_told(*line, node(1)), anew(21, 0, -1, 0, 71))

    def test_twice_it_keeps_still_from_the_later_clock(self):
        line = [THREE, stop(0), start(0), elapse(30, [30] * 3), stop(0), start(0)]
        self.assertEqual(last_told(*line, node(0)), anew(30, 0, -1, 0, 130))

    def test_keeping_still_stays_through_a_greater_term(self):
        line = [THREE, wish(0), take(0), take(1), stop(1), start(1), elapse(100, [100] * 3), take(1)]
        self.assertEqual(last_told(*line, node(1)), anew(100, 1, 0, 0, 100))


class OldLetters(unittest.TestCase):
    def test_a_would(self):
        line = [THREE, wish(0), take(0)]
        self.assertEqual(last(*line, take(1)), 3)
        self.assertEqual(last(*line, stop(0), start(0), take(1)), 0)
        # It wishes anew in the same term: who would then would now.
        self.assertEqual(run(*line, stop(0), start(0), wish(0), take(1))[-2:], [2, 2])

    def test_a_voted(self):
        line = [THREE, wish(0), take(0), take(1), take(1)]
        self.assertEqual(last(*line, take(2)), 4)
        self.assertEqual(last(*line, stop(0), start(0), take(2)), 0)

    def test_a_promised(self):
        line = [THREE] + ZERO_LEADS + [renew(0), take(2)]
        self.assertEqual(last(*line, take(3)), 5)
        self.assertEqual(last(*line, stop(0), start(0), take(3)), 0)
        self.assertEqual(last(*line, stop(0), start(0), elapse(100, [100] * 3), take(3)), 0)

    def test_a_free(self):
        line = [THREE] + ZERO_HOLDS + [leave(0, 1)]
        self.assertEqual(last(*line, take(3)), 3)
        self.assertEqual(last(*line, stop(1), start(1), take(3)), 0)
        self.assertEqual(last(*line, stop(1), start(1), elapse(100, [100] * 3), take(3)), 0)


class KeepingStill(unittest.TestCase):
    """Node 1 has begun anew at 0: it's bound at 99, and no longer at 100."""

    def both(self, line, letter, place=1):
        after = [stop(place), start(place)]
        still = told(*line, *after, elapse(99, [99] * 3), take(letter), letters())[-2:]
        free = told(*line, *after, elapse(99, [99] * 3), elapse(1, [1] * 3), take(letter), letters())[-2:]
        return still, free

    def test_would_you(self):
        still, free = self.both([THREE, wish(0)], 0)
        self.assertEqual((still[0], still[1][-6:]), ([1], [1, 0, 1, 1, 0, 0]))
        self.assertEqual((free[0], free[1][-6:]), ([1], [1, 0, 1, 1, 0, 1]))

    def test_vote(self):
        still, free = self.both([THREE, wish(0), take(0), take(1)], 1)
        self.assertEqual((still[0], still[1][0]), ([0], 2))
        self.assertEqual((free[0], free[1][-6:]), ([1], [3, 0, 1, 1, 0, 1]))

    def test_promise(self):
        still, free = self.both([THREE] + ZERO_LEADS + [renew(0)], 2)
        self.assertEqual((still[0], still[1][-6:]), ([1], [5, 0, 1, 1, 1, 0]))
        self.assertEqual((free[0], free[1][-6:]), ([1], [5, 0, 1, 1, 1, 1]))

    def test_against_whom_it_had_promised_too(self):
        still, free = self.both([THREE] + ZERO_HOLDS + [renew(0)], 3)
        self.assertEqual((still[0], still[1][-6:]), ([1], [5, 0, 1, 1, 2, 0]))
        self.assertEqual((free[0], free[1][-6:]), ([1], [5, 0, 1, 1, 2, 1]))

    def test_bound_it_hears_of_no_term(self):
        line = [THREE] + ZERO_LEADS + [renew(0), stop(2), start(2)]
        seen = fields(*line, take(1), take(2), node(2))
        self.assertEqual((seen["term"], seen["voted"], seen["promise"]), (0, -1, [-1, -1, -1]))

    def test_a_wish_against_itself(self):
        line = [THREE, stop(1), start(1), elapse(99, [99] * 3), wish(1)]
        self.assertEqual(run(*line)[-1], 2)
        self.assertEqual(last_told(*line, node(1)), [1, 99, 0, -1, 0, 0, -1, -1, -1, 100, 0, 0, 0, 0, 0, 0])
        self.assertEqual(last_told(*line, letters()), [2, 0, 0, 1, 1, 0, 0, 0, 2, 1, 1, 0, 0])
        line = line + [elapse(1, [1] * 3)]
        self.assertEqual(fields(*line, node(1))["would"], [])
        self.assertEqual(fields(*line, wish(1), node(1))["would"], [1])

    def test_a_heavy_one_doesnt_lead_alone(self):
        line = [begin(0, 100, [1]), stop(0), start(0)]
        self.assertEqual(run(*line, elapse(99, [99]), wish(0), elapse(1, [1]), wish(0))[-4:], [99, 2, 100, 4])

    def test_by_its_own_clock(self):
        line = [begin(200, 100, [1, 1]), stop(0), start(0), stop(1), start(1), elapse(100, [99, 100]), wish(0), wish(1)]
        self.assertEqual([fields(*line, node(place))["would"] for place in (0, 1)], [[], [1]])

    def test_it_may_lead_by_the_others_alone(self):
        # Nobody would at first; by nodes 1 and 2 it asks; then it has its own vote and node 1's.
        line = [THREE, stop(0), start(0), wish(0), take(0), take(0), take(0), take(0), take(0), take(1), renew(0)]
        self.assertEqual(run(*line)[3:], [2, 1, 1, 2, 3, 1, 4, 1])
        seen = fields(*line, node(0))
        self.assertEqual((seen["state"], seen["votes"], seen["given"], seen["holds"]), (LEADS, [0, 1], [], 0))
        self.assertEqual((seen["promise"], seen["still"], seen["round"]), ([-1, -1, -1], 100, 1))
        # In the row: the vote and the promise to node 2, the promise to node 1.
        self.assertEqual(last_told(*line, letters()), [3, 2, 2, 0, 1, 0, 0, 4, 1, 0, 1, 1, 0, 4, 2, 0, 1, 1, 0])
        line = line + [take(1), take(1)]
        self.assertEqual(run(*line, take(1), take(1))[-4:], [1, 1, 2, 5])
        self.assertEqual(last_told(*line, take(1), take(1), holds()), [0, 1, 0])
        seen = fields(*line, elapse(99, [99] * 3), renew(0), node(0))
        self.assertEqual((seen["given"], seen["promise"]), ([], [-1, -1, -1]))
        seen = fields(*line, elapse(100, [100] * 3), renew(0), node(0))
        self.assertEqual((seen["given"], seen["promise"]), ([0], [0, 1, 200]))

    def test_it_may_be_asked_who_it_is_and_stopped_again(self):
        line = [THREE, stop(1), start(1), renew(1), leave(1, 0), rank(1, 2), stop(1), wish(1)]
        self.assertEqual(run(*line), [0, 0, 0, -2, -2, 0, 0, -3])


class NotEvenThen(unittest.TestCase):
    def test_two_dont_hold_though_whoever_promised_forgot(self):
        # Node 1 forgets its promise to node 0 and won't help node 2 while node 0 may hold.
        line = [THREE] + ZERO_HOLDS + [take(1), stop(1), start(1), wish(2), elapse(99, [99] * 3)]
        self.assertEqual(last_told(*line, holds()), [99, 1, 0])
        self.assertEqual(run(*line, take(4), take(4))[-2:], [1, 0])
        line = line + [elapse(1, [1] * 3)]
        self.assertEqual(last_told(*line, holds()), [100, 0])
        self.assertEqual(run(*line, take(4), take(4))[-2:], [1, 3])

    def test_a_leader_that_begins_anew_leads_only_by_a_new_vote(self):
        line = [THREE] + ZERO_HOLDS + [stop(0), start(0)]
        self.assertEqual(run(*line, renew(0), wish(0))[-2:], [-2, 2])
        self.assertEqual(fields(*line, node(0))["state"], FOLLOWS)
        self.assertEqual(last(*line, keep(0)), 1)


if __name__ == "__main__":
    unittest.main()

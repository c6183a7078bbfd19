"""Promise 10: stop; and what becomes of a node that has stopped."""

import unittest

from tests.helper import LEADS, THREE, ZERO_HOLDS, ZERO_LEADS
from tests.helper import begin, elapse, fields, holds, keep, last, last_told, leave, letters, look, lose, node, rank
from tests.helper import renew, run, start, stop, take, told, wish


class Stop(unittest.TestCase):
    def test_it_has_stopped(self):
        self.assertEqual(run(THREE, stop(0), stop(2), stop(1)), [0, 0, 0, 0])
        self.assertEqual([last_told(THREE, stop(1), node(place))[0] for place in (0, 1, 2)], [1, 0, 1])

    def test_nothing_else_of_it_changes(self):
        for line in ([THREE], [THREE, wish(0)], [THREE] + ZERO_LEADS, [THREE] + ZERO_HOLDS):
            for place in (0, 1, 2):
                before, after = last_told(*line, node(place)), last_told(*line, stop(place), node(place))
                self.assertEqual((before[0], after), (1, [0] + before[1:]))

    def test_no_such_node(self):
        self.assertEqual(run(THREE, stop(3), stop(9), begin(0, 5, [1]), stop(1), stop(0)), [0, -1, -1, 0, -1, 0])

    def test_it_has_stopped_already(self):
        self.assertEqual(run(THREE, stop(1), stop(1), stop(0), start(1), stop(1)), [0, 0, -2, 0, 0, 0])

    def test_a_refusal_changes_nothing(self):
        line = [THREE] + ZERO_HOLDS + [stop(0)]
        self.assertEqual(look(*line, stop(0), stop(3), stop(9)), look(*line))


class WhileItHasStopped(unittest.TestCase):
    def test_one_that_follows(self):
        self.assertEqual(run(THREE, stop(1), wish(1), renew(1), leave(1, 0)), [0, 0, -3, -3, -3])

    def test_one_that_leads(self):
        self.assertEqual(run(THREE, *ZERO_HOLDS, stop(0), wish(0), renew(0), leave(0, 1))[-3:], [-3, -3, -3])

    def test_no_such_node_comes_first(self):
        self.assertEqual(run(THREE, stop(0), stop(1), stop(2), wish(3), renew(3), leave(3, 0))[-3:], [-1, -1, -1])

    def test_these_refusals_change_nothing(self):
        line = [THREE] + ZERO_HOLDS + [stop(0)]
        self.assertEqual(look(*line, wish(0), renew(0), leave(0, 1)), look(*line))

    def test_others_go_on(self):
        self.assertEqual(run(THREE, stop(2), *ZERO_HOLDS)[1:], [0, 2, 1, 3, 1, 4, 1, 1, 5])

    def test_its_rank_may_be_changed(self):
        line = [THREE, rank(1, 2), stop(1), rank(1, 4), rank(1, 3), rank(1, 10), rank(1, 9)]
        self.assertEqual(run(*line), [0, 0, 0, 0, -2, -2, 0])
        self.assertEqual(fields(*line[:5], node(1))["rank"], 4)
        self.assertEqual(fields(*line, start(1), node(1))["rank"], 9)

    def test_its_clock_goes_on(self):
        line = [begin(100, 100, [1, 1]), elapse(10, [9, 11]), stop(1), elapse(20, [18, 22])]
        self.assertEqual(run(*line), [0, 10, 0, 30])
        self.assertEqual([fields(*line, node(place))["clock"] for place in (0, 1)], [27, 33])
        self.assertEqual(run(*line, elapse(20, [20]), elapse(20, [20, 23]))[-2:], [-1, -1])
        self.assertEqual(fields(*line, start(1), elapse(10, [10, 10]), node(1))["clock"], 43)

    def test_for_whom_one_lets_go_may_have_stopped(self):
        line = [THREE] + ZERO_HOLDS + [stop(1), leave(0, 1), take(3)]
        self.assertEqual(run(*line)[-3:], [0, 0, 0])
        self.assertEqual(fields(*line, node(1))["promise"], [0, 1, 100])

    def test_it_holds_no_more_though_nothing_else_changed(self):
        line = [THREE] + ZERO_HOLDS + [stop(0)]
        self.assertEqual(last_told(*line, holds()), [0, 0])
        seen = fields(*line, node(0))
        self.assertEqual((seen["state"], seen["holds"], seen["given"]), (LEADS, 100, [0, 1]))


class LettersToIt(unittest.TestCase):
    def of_no_use(self, line, letter, place):
        """The letter would be of use, but its node has stopped."""
        self.assertNotEqual(last(*line, take(letter)), 0)
        line = line + [stop(place)]
        before = look(*line)
        self.assertEqual(last(*line, keep(letter)), 0)
        self.assertEqual(look(*line, keep(letter)), before)
        self.assertEqual(last(*line, take(letter)), 0)
        self.assertEqual(look(*line, take(letter)), look(*line, lose(letter)))

    def test_of_every_kind(self):
        start_of_it = [THREE] + ZERO_LEADS + [renew(0), take(2)]
        self.of_no_use([THREE, wish(0)], 0, 1)
        self.of_no_use([THREE, wish(0), take(0)], 1, 0)
        self.of_no_use([THREE, wish(0), take(0), take(1)], 1, 1)
        self.of_no_use([THREE, wish(0), take(0), take(1), take(1)], 2, 0)
        self.of_no_use([THREE] + ZERO_LEADS + [renew(0)], 2, 1)
        self.of_no_use(start_of_it, 3, 0)
        self.of_no_use(start_of_it + [leave(0, 1)], 4, 1)
        self.of_no_use(start_of_it + [leave(0, 2)], 4, 1)

    def test_one_that_lies_on_comes_when_it_runs_again(self):
        line = [THREE, wish(0), stop(1), keep(0), start(1), elapse(100, [100] * 3), take(0), take(1)]
        self.assertEqual(run(*line), [0, 2, 0, 0, 0, 100, 1, 3])

    def test_letters_of_its_own_come_all_the_same(self):
        line = [THREE, wish(0), stop(0), take(0)]
        self.assertEqual(told(*line, letters())[-2:], [[1], [2, 0, 2, 0, 1, 0, 0, 1, 0, 1, 1, 0, 1]])
        self.assertEqual(last(*line, take(1)), 0)

    def test_a_promise_to_it_binds_all_the_same(self):
        # Node 2 has voted in term 1 and wishes for term 2; node 1 has promised until 100.
        line = [THREE] + ZERO_HOLDS + [take(1), stop(0), wish(2)]
        self.assertEqual(run(*line, elapse(99, [99] * 3), take(4), take(4))[-2:], [1, 0])
        self.assertEqual(run(*line, elapse(100, [100] * 3), take(4), take(4))[-2:], [1, 3])


if __name__ == "__main__":
    unittest.main()

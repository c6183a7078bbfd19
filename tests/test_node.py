"""Promise 13: node."""

import unittest

from tests.helper import FOLLOWS, THREE, ZERO_HOLDS, ZERO_LEADS
from tests.helper import begin, elapse, fields, last_told, leave, look, node, rank, renew, run, start, stop, take, told
from tests.helper import wish

AT_FIRST = [1, 0, 0, -1, 0, 0, -1, -1, -1, 0, -1, 0, 0, 0, 0, 0]
FIVE = begin(0, 100, [1] * 5)


class Node(unittest.TestCase):
    def test_at_first(self):
        for count in (1, 5):
            line = [begin(0, 10, [1] * count)] + [node(place) for place in range(count)]
            self.assertEqual(told(*line)[1:], [AT_FIRST] * count)

    def test_no_such_node(self):
        self.assertEqual(run(THREE, node(3), node(9)), [0, -1, -1])
        self.assertEqual(run(FIVE, node(5)), [0, -1])
        self.assertEqual(look(THREE, *ZERO_HOLDS, node(3), node(9)), look(THREE, *ZERO_HOLDS))

    def test_who_leads_and_who_promised(self):
        line = [THREE, rank(0, 2)] + ZERO_LEADS + [elapse(5, [5] * 3), renew(0), renew(0), take(4), take(5)]
        self.assertEqual(last_told(*line, node(0)),
                         [1, 5, 1, 0, 2, 2, 0, 1, 105, 0, -1, 2, 0, 1, 2, 5, 2, 0, 1, 105])
        self.assertEqual(last_told(*line, node(1)), [1, 5, 1, 0, 0, 0, 0, 1, 105, 0, -1, 0, 0, 0, 0, 0])
        self.assertEqual(last_told(*line, node(2)), [1, 5] + AT_FIRST[2:])

    def test_who_asks_and_who_voted(self):
        line = [FIVE, wish(3), take(0), take(0), take(2), take(2), take(2)]
        self.assertEqual(run(*line), [0, 2, 1, 1, 2, 3, 1])
        self.assertEqual(last_told(*line, node(3)), [1, 0, 1, 3, 0, 1, -1, -1, -1, 0, -1, 1, 3, 0, 0, 0, 0])
        self.assertEqual(last_told(*line, node(0)), [1, 0, 1, 3, 0, 0, -1, -1, -1, 0, -1, 0, 0, 0, 0, 0])

    def test_each_of_its_own(self):
        line = [begin(200, 100, [1, 1, 1]), elapse(10, [8, 10, 12]), rank(1, 7), stop(2), start(2), wish(2), stop(0)]
        self.assertEqual(told(*line, node(0), node(1), node(2))[-3:], [
            [0, 8] + AT_FIRST[2:],
            [1, 10, 0, -1, 7] + AT_FIRST[5:],
            [1, 12] + AT_FIRST[2:9] + [112, 0] + AT_FIRST[11:]])

    def test_a_wish(self):
        self.assertEqual(last_told(THREE, wish(1), node(1)), AT_FIRST[:10] + [1, 1] + AT_FIRST[11:])
        self.assertEqual(last_told(THREE, wish(1), node(0)), AT_FIRST)

    def test_a_wish_without_anybody_and_no_wish(self):
        still = AT_FIRST[:9] + [100]
        self.assertEqual(last_told(THREE, stop(0), start(0), wish(0), node(0)), still + [0] + AT_FIRST[11:])
        self.assertEqual(last_told(THREE, stop(0), start(0), node(0)), still + [-1] + AT_FIRST[11:])

    def test_a_promise_given_when_wishing_ends_the_wish(self):
        line = [THREE] + ZERO_LEADS + [renew(0), wish(1)]
        self.assertEqual(fields(*line, node(1))["would"], [1])
        seen = fields(*line, take(2), node(1))
        self.assertEqual((seen["would"], seen["promise"]), (None, [0, 1, 100]))

    def test_a_promise_that_has_run_out_is_told_until_it_is_gone(self):
        line = [THREE] + ZERO_HOLDS + [elapse(500, [500] * 3)]
        self.assertEqual(fields(*line, node(1))["promise"], [0, 1, 100])
        self.assertEqual(fields(*line, leave(0, 9), take(3), node(1))["promise"], [-1, -1, -1])

    def test_who_let_go(self):
        line = [THREE] + ZERO_LEADS + [elapse(5, [5] * 3), renew(0), take(2), take(3), leave(0, 1)]
        self.assertEqual(last_told(*line, node(0)), [1, 5, 1, 0, 0, 0, -1, -1, -1, 0, -1, 2, 0, 1, 1, 5, 0, 0])

    def test_who_leads_anew_has_no_round_but_still_when_it_began_the_last(self):
        line = [begin(0, 100, [1]), wish(0), elapse(5, [5]), renew(0), leave(0, 0), wish(0)]
        self.assertEqual(last_told(*line, node(0)), [1, 5, 2, 0, 0, 2, -1, -1, -1, 0, -1, 1, 0, 0, 5, 0, 0])

    def test_who_hears_of_a_greater_term(self):
        # Node 1 comes to lead term 2; node 0, which leads term 1, hears of it by node 1's answer.
        line = [THREE] + ZERO_HOLDS + [elapse(100, [100] * 3), wish(1), take(4), take(4), take(5), take(5)]
        line = line + [renew(0), take(5), take(6)]
        self.assertEqual(run(*line)[-1], 6)
        self.assertEqual(last_told(*line, node(0)),
                         [1, 100, 2, -1, 0, FOLLOWS, 0, 1, 200, 0, -1, 0, 2, 100, 0, 0])


class InTheOrderInWhichThatWasKnown(unittest.TestCase):
    """Of five nodes with the weights 1, 1, 1, 1, 9 node 4 is needed, so the lists of the others grow."""

    START = [begin(0, 100, [1, 1, 1, 1, 9]), wish(1)]
    # In the row: would you to 0, 2, 3, 4; those of 3, 0 and 2 are taken, and they answer.
    WISHED = START + [take(2), take(0), take(0), take(1), take(1), take(1)]

    def test_who_would(self):
        self.assertEqual(run(*self.WISHED)[2:], [1, 1, 1, 2, 2, 2])
        seen = [fields(*self.WISHED[:count], node(1))["would"] for count in (5, 6, 7, 8)]
        self.assertEqual(seen, [[1], [1, 3], [1, 3, 0], [1, 3, 0, 2]])

    def asked(self):
        # The last is node 4's; then votes to 0, 2, 3, 4, of which those of 2, 0 and 3 are taken.
        asked = self.WISHED + [take(0), take(0)]
        self.assertEqual(run(*asked)[-2:], [1, 3])
        return asked + [take(1), take(0), take(0), take(1), take(1), take(1)]

    def test_who_has_voted(self):
        line = self.asked()
        self.assertEqual(run(*line)[-6:], [1, 1, 1, 2, 2, 2])
        self.assertEqual(fields(*line, node(1))["votes"], [1, 2, 0, 3])
        line = line + [take(0), take(0)]
        self.assertEqual(run(*line)[-2:], [1, 4])
        self.assertEqual(fields(*line, node(1))["votes"], [1, 2, 0, 3, 4])

    def test_who_has_given(self):
        line = self.asked() + [take(0), take(0), renew(1)]
        # Promises to 0, 2, 3, 4, of which those of 3, 2 and 0 are taken; node 4's comes last.
        line = line + [take(2), take(1), take(0), take(1), take(1), take(1)]
        self.assertEqual(run(*line)[-7:], [1, 1, 1, 1, 2, 2, 2])
        seen = fields(*line, node(1))
        self.assertEqual((seen["given"], seen["holds"]), ([1, 3, 2, 0], 0))
        line = line + [take(0), take(0)]
        seen = fields(*line, node(1))
        self.assertEqual((seen["given"], seen["holds"]), ([1, 3, 2, 0, 4], 100))
        self.assertEqual(last_told(*line, node(1)),
                         [1, 0, 1, 1, 0, 2, 1, 1, 100, 0, -1, 5, 1, 2, 0, 3, 4, 1, 0, 5, 1, 3, 2, 0, 4, 100])
        seen = fields(*line, renew(1), node(1))
        self.assertEqual((seen["given"], seen["holds"], seen["round"]), ([1], 100, 2))


if __name__ == "__main__":
    unittest.main()

"""Promise 15: led."""

import unittest

from tests.helper import THREE, ZERO_HOLDS, ZERO_LEADS
from tests.helper import begin, elapse, last_told, leave, led, renew, row_told, run, start, stop, take, wish

ALONE = [begin(0, 100, [1]), wish(0)]


class Led(unittest.TestCase):
    def test_nobody(self):
        self.assertEqual(last_told(THREE, led()), [0])

    def test_not_before_it_leads(self):
        each = [last_told(THREE, *ZERO_LEADS[:count], led()) for count in range(6)]
        self.assertEqual(each, [[0]] * 5 + [[1, 1, 0]])

    def test_one_that_leads_alone_at_once(self):
        self.assertEqual(last_told(*ALONE, led()), [1, 1, 0])
        self.assertEqual(last_told(begin(0, 5, [1, 0, 4]), wish(2), led()), [1, 1, 2])

    def test_rounds_are_no_matter(self):
        self.assertEqual(last_told(THREE, *ZERO_HOLDS, renew(0), renew(0), led()), [1, 1, 0])

    def test_the_same_in_several_terms(self):
        line = ALONE + [leave(0, 0), wish(0), leave(0, 3), wish(0)]
        self.assertEqual(last_told(*line, led()), [3, 1, 0, 2, 0, 3, 0])

    def test_several_in_their_order(self):
        line = [THREE] + ZERO_HOLDS + [leave(0, 1), take(3), take(4), take(5)]
        self.assertEqual(last_told(*line, led()), [2, 1, 0, 2, 1])
        # Node 1 holds by node 0's promise and hands back.
        line = line + [renew(1), take(5), take(6), leave(1, 0)]
        self.assertEqual(run(*line)[-4:], [1, 1, 5, 0])
        line = line + [take(row_told(*line).index([6, 0, 1, 2, 0, 1]))]
        line = line + [take(row_told(*line).index([2, 1, 0, 3, 0, 0]))]
        line = line + [take(row_told(*line).index([3, 0, 1, 3, 0, 1]))]
        self.assertEqual(run(*line)[-3:], [3, 1, 4])
        self.assertEqual(last_told(*line, led()), [3, 1, 0, 2, 1, 3, 0])

    def test_by_who_led_first_not_by_the_term(self):
        # Node 1's vote for node 0 in term 1 is late: before it comes node 1 leads term 2 by node 2.
        line = [THREE, wish(0), take(0), take(1), take(1), wish(1), take(4), take(4), take(5), take(5), take(2)]
        self.assertEqual(run(*line), [0, 2, 1, 3, 1, 2, 1, 3, 1, 4, 4])
        self.assertEqual(last_told(*line, led()), [2, 2, 1, 1, 0])

    def test_after_it_has_let_go_stopped_or_begun_anew(self):
        line = [THREE] + ZERO_HOLDS
        for more in ([leave(0, 1)], [stop(0)], [stop(0), start(0)], [elapse(900, [900] * 3)]):
            self.assertEqual(last_told(*line, *more, led()), [1, 1, 0])

    def test_begun_anew_it_leads_a_later_term(self):
        line = ALONE + [stop(0), start(0), elapse(100, [100]), wish(0)]
        self.assertEqual(last_told(*line, led()), [2, 1, 0, 2, 0])

    def test_who_asked_in_vain_isnt_there(self):
        # Node 0 asks for term 1 and gets no vote; anew, it leads term 2.
        line = [THREE, wish(0), take(0), take(1), wish(0), take(3), take(4), take(4), take(5)]
        self.assertEqual(run(*line)[-4:], [1, 3, 1, 4])
        self.assertEqual(last_told(*line, led()), [1, 2, 0])

    def test_more_than_a_few(self):
        line = ALONE + [leave(0, 0), wish(0)] * 48
        self.assertEqual(last_told(*line, led()), [49] + [number for term in range(1, 50) for number in (term, 0)])


if __name__ == "__main__":
    unittest.main()

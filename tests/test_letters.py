"""Promise 12: letters."""

import unittest

from tests.helper import THREE, ZERO_HOLDS, ZERO_LEADS
from tests.helper import begin, keep, last_told, leave, letters, rank, renew, stop, take, told, wish


class Letters(unittest.TestCase):
    def test_none(self):
        self.assertEqual(last_told(THREE, letters()), [0])
        self.assertEqual(last_told(begin(0, 5, [1]), wish(0), letters()), [0])
        self.assertEqual(last_told(begin(0, 5, [1, 1]), wish(0), take(0), take(0), take(0), take(0), letters()), [0])

    def test_would_you_and_would(self):
        line = [THREE, rank(1, 4), rank(2, 5), wish(1)]
        self.assertEqual(last_told(*line, letters()), [2, 0, 0, 1, 1, 4, 0, 0, 2, 1, 1, 4, 0])
        # Of its two letters node 0 answers yes, node 2 (which ranks above) no.
        self.assertEqual(last_told(*line, take(0), take(0), letters()), [2, 1, 1, 0, 1, 0, 1, 1, 1, 2, 1, 0, 0])

    def test_vote_and_voted(self):
        line = [THREE, rank(0, 3), wish(0), take(0), take(1)]
        self.assertEqual(last_told(*line, letters())[:13], [3, 0, 2, 0, 1, 3, 0, 2, 1, 0, 1, 3, 0])
        self.assertEqual(last_told(*line, take(1), letters())[-6:], [3, 0, 1, 1, 0, 1])

    def test_promise_and_promised(self):
        line = [THREE] + ZERO_LEADS + [renew(0), renew(0)]
        self.assertEqual(last_told(*line, letters())[13:],
                         [4, 1, 0, 1, 1, 0, 4, 2, 0, 1, 1, 0, 4, 1, 0, 1, 2, 0, 4, 2, 0, 1, 2, 0])
        self.assertEqual(last_told(*line, take(4), letters())[-6:], [5, 0, 1, 1, 2, 1])

    def test_free(self):
        line = [THREE] + ZERO_HOLDS
        self.assertEqual(last_told(*line, leave(0, 2), letters())[-12:], [6, 1, 0, 1, 0, 0, 6, 2, 0, 1, 0, 1])
        self.assertEqual(last_told(*line, leave(0, 9), letters())[-12:], [6, 1, 0, 1, 0, 0, 6, 2, 0, 1, 0, 0])

    def test_in_the_order_in_which_they_were_sent(self):
        line = [THREE, wish(2), wish(0), keep(1), stop(1)]
        self.assertEqual(last_told(*line, letters()),
                         [5, 0, 0, 2, 1, 0, 0, 0, 1, 2, 1, 0, 0, 0, 1, 0, 1, 0, 0, 0, 2, 0, 1, 0, 0, 1, 2, 1, 1, 0, 1])

    def test_a_hundred_of_them(self):
        four = [number for place in (1, 2, 3, 4) for number in (0, place, 0, 1, 0, 0)]
        line = [begin(0, 10, [1] * 5)] + [wish(0)] * 25
        self.assertEqual(last_told(*line[:-1], letters()), [96] + four * 24)
        self.assertEqual(last_told(*line, letters()), [100] + four * 25)
        self.assertEqual(last_told(*line, wish(1), keep(0), letters()), [100] + four * 25)

    def test_asked_again_and_again(self):
        line = [begin(0, 10, [1] * 5)] + [wish(0)] * 25
        each = told(*line, *([letters()] * 74))[26:]
        self.assertEqual(len(each[0]), 601)
        self.assertEqual(each, [each[0]] * 74)


if __name__ == "__main__":
    unittest.main()

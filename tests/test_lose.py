"""Promise 9: lose, by which a letter is taken out of the row and never comes."""

import unittest

from tests.helper import THREE, ZERO_HOLDS
from tests.helper import begin, keep, look, lose, renew, row_told, run, take, told, wish

FOUR = begin(0, 100, [1] * 4)
TO_ONE, TO_TWO, TO_THREE = [[0, place, 0, 1, 0, 0] for place in (1, 2, 3)]
FULL = [begin(0, 10, [1] * 5)] + [wish(0)] * 25


class Lose(unittest.TestCase):
    def test_the_first_a_middle_and_the_last(self):
        self.assertEqual(run(FOUR, wish(0), lose(0), lose(0), lose(0)), [0, 2, 0, 0, 0])
        self.assertEqual(row_told(FOUR, wish(0)), [TO_ONE, TO_TWO, TO_THREE])
        self.assertEqual(row_told(FOUR, wish(0), lose(0)), [TO_TWO, TO_THREE])
        self.assertEqual(row_told(FOUR, wish(0), lose(1)), [TO_ONE, TO_THREE])
        self.assertEqual(row_told(FOUR, wish(0), lose(2)), [TO_ONE, TO_TWO])
        self.assertEqual(row_told(FOUR, wish(0), lose(0), lose(1)), [TO_TWO])
        self.assertEqual(row_told(FOUR, wish(0), lose(2), lose(1), lose(0)), [])

    def test_it_is_not_handed_over(self):
        line = [THREE] + ZERO_HOLDS
        before, after = look(*line), look(*line, lose(1))
        self.assertEqual(after[1:], before[1:])
        self.assertEqual(after[0], [2] + before[0][1:7] + before[0][13:])

    def test_it_never_comes(self):
        self.assertEqual(run(begin(0, 10, [1, 1]), wish(0), lose(0), take(0), keep(0)), [0, 2, 0, -1, -1])
        # Node 1's vote is lost, and node 2's is as good.
        line = [THREE, wish(0), take(0), take(1), take(1), lose(2), take(1), take(1)]
        self.assertEqual(run(*line), [0, 2, 1, 3, 1, 0, 1, 4])

    def test_one_that_there_isnt(self):
        self.assertEqual(run(FOUR, lose(0), lose(200)), [0, -1, -1])
        self.assertEqual(run(FOUR, wish(0), lose(3), lose(4), lose(200), lose(2), lose(2)), [0, 2, -1, -1, -1, 0, -1])
        self.assertEqual(look(FOUR, wish(0), lose(3), lose(200)), look(FOUR, wish(0)))

    def test_one_that_lies_twice_is_lost_once(self):
        line = [FOUR, wish(0), keep(0), keep(0)]
        would = [1, 0, 1, 1, 0, 1]
        self.assertEqual(row_told(*line), [TO_ONE, TO_TWO, TO_THREE, would, would])
        self.assertEqual(row_told(*line, lose(4)), [TO_ONE, TO_TWO, TO_THREE, would])

    def test_the_last_of_a_full_row_and_the_one_behind_it(self):
        self.assertEqual(run(*FULL, lose(100), lose(99), lose(99), lose(98))[-4:], [-1, 0, -1, 0])
        self.assertEqual(len(row_told(*FULL, lose(99))), 99)

    def test_room_in_a_full_row_told(self):
        # Node 1's letters to 0, 2, 3 and 4: as many find room as were lost.
        before = row_told(*FULL)
        self.assertEqual(row_told(*FULL, wish(1)), before)
        self.assertEqual(row_told(*FULL, lose(0), wish(1)), before[1:] + [[0, 0, 1, 1, 0, 0]])
        self.assertEqual(row_told(*FULL, lose(99), lose(50), wish(1)),
                         before[:50] + before[51:99] + [[0, 0, 1, 1, 0, 0], [0, 2, 1, 1, 0, 0]])

    def test_room_for_an_answer(self):
        before = row_told(*FULL)
        self.assertEqual(row_told(*FULL, keep(0)), before)
        self.assertEqual(row_told(*FULL, lose(1), keep(0)), before[:1] + before[2:] + [[1, 0, 1, 1, 0, 1]])

    def test_a_promise_lost_and_a_round_begun_anew(self):
        line = [THREE] + ZERO_HOLDS + [renew(0), lose(3), take(3), renew(0), take(4), take(5)]
        self.assertEqual(told(*line)[-6:], [[2], [0], [1], [3], [1], [2]])


if __name__ == "__main__":
    unittest.main()

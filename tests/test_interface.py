"""How calls are handed in and answers given back."""

import unittest

from holdsforsure.world import NotBuilt, answers
from tests.helper import THREE, ZERO_HOLDS, begin, elapse, keep, leave, rank, renew, run, take, wish

LINE = [THREE] + ZERO_HOLDS + [elapse(3, [3, 3, 3]), rank(1, 4), keep(0), leave(0, 1), renew(7)]


def flat(calls):
    return [number for call in calls for number in call]


class Interface(unittest.TestCase):
    def test_each_answer_has_its_length_before_it(self):
        told = answers([0, 0, 100, 2, 1, 1, 1, 5, 2, 5, 5, 2, 0, 6, 0, 6, 0, 6, 0, 6, 0, 3, 0, 4, 0, 9, 5, 1, 3, 7, 9])
        self.assertEqual(told, [1, 0, 1, 5, 1, 2, 1, 1, 1, 3, 1, 1, 1, 4, 1, 1, 1, 0, 1, 0, 1, -1])

    def test_rows_of_every_length(self):
        for length in range(11):
            told = run(begin(0, 10, [1] * length), wish(9), begin(0, 10, [1]), elapse(1, [1] * length), wish(9))
            first = 0 if 1 <= length <= 5 else -1
            self.assertEqual(told, [first, -1 if first == 0 else -9, 0, 1 if length == 1 else -1, -1])

    def test_what_is_handed_in_is_not_changed(self):
        calls = flat(LINE)
        before = list(calls)
        answers(calls)
        self.assertEqual(calls, before)

    def test_nothing_is_kept(self):
        calls = flat(LINE)
        first = answers(calls)
        self.assertEqual(answers([2, 0]), [1, -9])
        self.assertEqual(answers(calls), first)
        first.append(5)
        self.assertEqual(answers(calls), first[:-1])

    def test_a_list_of_plain_whole_numbers(self):
        told = answers(flat(LINE))
        self.assertIs(type(told), list)
        self.assertEqual({type(number) for number in told}, {int})

    def test_calls_that_are_not_built_fail_aloud(self):
        for call in ([8, 0], [9, 0], [10, 0], [11], [12, 0], [13], [14]):
            with self.assertRaises(NotBuilt):
                answers(begin(0, 10, [1]) + call)


if __name__ == "__main__":
    unittest.main()

"""How calls are handed in and answers given back."""

import unittest

from holdsforsure.world import answers
from tests.helper import QUESTIONS, THREE, ZERO_HOLDS, begin, elapse, holds, keep, leave, led, letters, look, lose
from tests.helper import node, rank, renew, run, start, stop, take, told, wish

LINE = [THREE] + ZERO_HOLDS + QUESTIONS + [elapse(3, [3, 3, 3]), rank(1, 4), keep(0), leave(0, 1), renew(7), stop(2)]
LINE = LINE + [lose(0), wish(1), start(2), wish(2)] + QUESTIONS

# Behind ZERO_HOLDS and a stop of node 2 each of these is refused.
REFUSED = [
    begin(0, 0, [1]), elapse(1, [1]), elapse(1, [1, 1, 2]), wish(3), wish(2), wish(0), renew(3), renew(2), renew(1),
    leave(3, 0), leave(2, 0), leave(1, 0), rank(3, 1), rank(0, 10), take(3), keep(3), lose(3), take(200), keep(200),
    lose(200), stop(3), stop(2), start(3), start(0), node(3), node(9)]


def flat(calls):
    return [number for call in calls for number in call]


class Interface(unittest.TestCase):
    def test_each_answer_has_its_length_before_it(self):
        told = answers([0, 0, 100, 2, 1, 1, 1, 5, 2, 5, 5, 2, 0, 6, 0, 6, 0, 6, 0, 6, 0, 3, 0, 4, 0, 9, 5, 1, 3, 7, 9])
        self.assertEqual(told, [1, 0, 1, 5, 1, 2, 1, 1, 1, 3, 1, 1, 1, 4, 1, 1, 1, 0, 1, 0, 1, -1])

    def test_rows_of_every_length(self):
        for length in range(11):
            told = run(begin(0, 10, [1] * length), wish(9), begin(0, 10, [1]), elapse(1, [1] * length), wish(9))
            first = 0 if 1 <= length <= 5 else -1
            self.assertEqual(told, [first, -1 if first == 0 else -9, 0, 1 if length == 1 else -1, -1])

    def test_what_is_handed_in_is_not_changed(self):
        calls = Watched(flat(LINE))
        before = list(calls)
        answers(calls)
        self.assertEqual(list(calls), before)

    def test_nothing_is_kept(self):
        calls = flat(LINE)
        first = answers(calls)
        self.assertEqual(answers([2, 0]), [1, -9])
        self.assertEqual(answers(calls), first)
        first.append(5)
        self.assertEqual(answers(calls), first[:-1])

    def test_a_list_of_plain_whole_numbers(self):
        told = answers(flat(LINE))
        self.assertIs(type(told), list)
        self.assertEqual({type(number) for number in told}, {int})

    def test_what_each_question_answers_has_its_length_before_it(self):
        self.assertEqual(answers(begin(0, 10, [2, 1]) + [2, 0, 3, 0, 11, 12, 0, 13, 14]), [
            1, 0, 1, 4, 1, 1,
            19, 3, 0, 1, 0, 1, 0, 0, 2, 1, 0, 1, 0, 0, 4, 1, 0, 1, 1, 0,
            18, 1, 0, 1, 0, 0, 2, 0, 1, 10, 0, -1, 1, 0, 1, 0, 1, 0, 10,
            3, 0, 1, 0,
            3, 1, 1, 0])

    def test_a_refusal_is_its_number_alone(self):
        self.assertEqual(answers(begin(0, 10, [1]) + [8, 0, 9, 1, 10, 0, 12, 1, 12, 9]),
                         [1, 0, 1, -1, 1, -1, 1, -2, 1, -1, 1, -1])
        self.assertEqual(answers([11, 12, 0, 13, 14, 8, 0]), [1, -9] * 5)

    def test_as_long_as_a_list_may_be(self):
        wishes = [wish(0)] * 25
        calls = flat([begin(0, 10, [1] * 5)] + wishes + [letters()] * 74)
        self.assertEqual(len(answers(calls)), 2 * 26 + 74 * 602)
        calls = flat([elapse(2000, [3000] * 10)] * 100)
        self.assertEqual(answers(calls), [1, -9] * 100)


class Watched(list):
    """A list that refuses to be changed, even for a while."""

    def refuse(self, *given):
        raise AssertionError("what is handed in was changed")

    append = extend = insert = pop = remove = clear = sort = reverse = refuse
    __setitem__ = __delitem__ = __iadd__ = __imul__ = refuse


class NothingChanges(unittest.TestCase):
    LINES = ([THREE], [THREE] + ZERO_HOLDS, [THREE] + ZERO_HOLDS + [stop(0), start(0), wish(0), stop(2)])

    def test_by_questions(self):
        for line in self.LINES:
            each = told(*line, *(QUESTIONS * 3))[len(line):]
            size = len(QUESTIONS)
            self.assertEqual((each[size:2 * size], each[2 * size:]), (each[:size], each[:size]))

    def test_what_comes_of_later_calls_isnt_changed_by_questions(self):
        calls = [THREE] + ZERO_HOLDS + [leave(0, 1), take(3), stop(2), take(4), start(2), take(4)]
        asked = [call for pair in zip(calls, [letters(), node(0), node(1), holds(), led()] * 3) for call in pair]
        self.assertEqual(told(*asked)[0::2], told(*calls))

    def test_by_refusals(self):
        line = [THREE] + ZERO_HOLDS + [stop(2)]
        before = look(*line)
        for call in REFUSED:
            self.assertLess(run(*line, call)[-1], 0, call)
            self.assertEqual(look(*line, call), before, call)
        self.assertEqual(look(*line, *REFUSED), before)


if __name__ == "__main__":
    unittest.main()

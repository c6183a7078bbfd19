"""Promises 7 and 8: the row of letters, and letters taken, kept, lost for want of room."""

import unittest

from holdsforsure.world import keep as keep_in
from holdsforsure.world import take as take_in
from holdsforsure.world import wish as wish_in
from tests.helper import THREE, ZERO_HOLDS, ZERO_LEADS
from tests.helper import begin, elapse, keep, last, leave, picture, renew, row_of, run, take, wish, world_of


def full_row():
    world = world_of([1] * 5)
    for count in range(25):
        wish_in(world, 0)
    return world


class TakeAndKeep(unittest.TestCase):
    def test_a_letter_that_there_isnt(self):
        self.assertEqual(run(THREE, take(0), keep(0), take(200), keep(200)), [0, -1, -1, -1, -1])
        self.assertEqual(run(THREE, wish(0), take(2), keep(2), keep(1), take(1)), [0, 2, -1, -1, 1, 1])

    def test_a_refusal_changes_nothing(self):
        world = world_of([1, 1, 1])
        wish_in(world, 0)
        before = picture(world)
        self.assertEqual((take_in(world, 2), keep_in(world, 2)), (-1, -1))
        self.assertEqual(picture(world), before)

    def test_taken_out_then_handed_over(self):
        world = world_of([1, 1, 1])
        wish_in(world, 0)
        self.assertEqual(take_in(world, 0), 1)
        self.assertEqual(row_of(world), [(0, 2, 0, 1, 0, False), (1, 0, 1, 1, 0, True)])

    def test_handed_over_and_lies_on(self):
        world = world_of([1, 1, 1])
        wish_in(world, 0)
        self.assertEqual(keep_in(world, 0), 1)
        self.assertEqual(row_of(world), [(0, 1, 0, 1, 0, False), (0, 2, 0, 1, 0, False), (1, 0, 1, 1, 0, True)])

    def test_of_no_use_it_is_taken_out_all_the_same(self):
        world = world_of([1, 1])
        wish_in(world, 0)
        world.nodes[1].runs = False
        self.assertEqual((keep_in(world, 0), len(world.row)), (0, 1))
        self.assertEqual((take_in(world, 0), len(world.row)), (0, 0))


class TheSameTwice(unittest.TestCase):
    def test_a_would_you_is_answered_twice_and_counted_once(self):
        line = [begin(0, 10, [1] * 5), wish(0), keep(0), keep(0), take(4), take(4)]
        self.assertEqual(run(*line), [0, 2, 1, 1, 2, 0])

    def test_a_would(self):
        line = [begin(0, 10, [1] * 5), wish(0), take(0), keep(3), keep(3)]
        self.assertEqual(run(*line), [0, 2, 1, 2, 0])

    def test_a_vote_and_a_voted(self):
        # Nodes 1 and 2 would, so node 0 asks: would you to 3 and 4, then votes to 1 .. 4.
        line = [begin(0, 10, [1] * 5), wish(0), take(0), take(0), take(2), take(2)]
        line = line + [keep(2), keep(2), keep(6), keep(6), take(7), take(3), take(6)]
        self.assertEqual(run(*line), [0, 2, 1, 1, 2, 3, 1, 1, 2, 0, 0, 1, 4])

    def test_a_promise_and_a_promised(self):
        line = [THREE] + ZERO_LEADS + [renew(0), keep(2), keep(2), keep(4), keep(4), keep(5)]
        self.assertEqual(run(*line)[-6:], [1, 1, 1, 5, 0, 0])

    def test_a_free(self):
        line = [THREE] + ZERO_HOLDS + [leave(0, 1), keep(3), keep(3)]
        self.assertEqual(run(*line)[-3:], [0, 3, 0])


class OldLetters(unittest.TestCase):
    def test_a_promised_of_an_earlier_round(self):
        line = [THREE] + ZERO_LEADS + [renew(0), take(2), renew(0), take(3)]
        self.assertEqual(run(*line)[-4:], [1, 1, 2, 0])

    def test_who_missed_the_vote_hears_by_the_promise(self):
        # Node 2 wishes in term 0 and then promises node 0 in term 1: it wishes no more, and what
        # node 1 had answered it comes for nothing.
        line = [begin(0, 100, [1] * 3), wish(2), take(1)]
        line = line + [wish(0), take(2), take(3), take(3), take(4), renew(0), take(5), take(1)]
        self.assertEqual(run(*line), [0, 2, 1, 2, 1, 3, 1, 4, 1, 1, 0])

    def test_who_has_stood_aside_hears_of_a_greater_term(self):
        # The promises to node 0 run out and node 1 comes to lead term 2 by node 2's vote; node 0
        # renews in term 1, and node 1 answers that with its own term.
        line = [THREE] + ZERO_HOLDS + [elapse(100, [100] * 3), wish(1), take(4), take(4), take(5), take(5)]
        told = run(*line, renew(0), take(5), take(6))
        self.assertEqual(told[-9:], [100, 2, 1, 3, 1, 4, 2, 1, 6])


class Room(unittest.TestCase):
    def test_for_a_hundred(self):
        world = full_row()
        self.assertEqual(len(world.row), 100)
        before = row_of(world)
        self.assertEqual(wish_in(world, 3), 2)
        self.assertEqual(row_of(world), before)
        self.assertEqual(world.nodes[3].would, [3])

    def test_through_the_calls(self):
        wishes = [wish(0)] * 25
        self.assertEqual(run(begin(0, 10, [1] * 5), *wishes, keep(99), keep(100))[-2:], [1, -1])
        self.assertEqual(run(begin(0, 10, [1] * 5), *wishes, wish(1), keep(100))[-2:], [2, -1])
        self.assertEqual(run(begin(0, 10, [1] * 5), *wishes[:24], keep(95), keep(96), keep(97))[-3:], [1, 2, -1])

    def test_an_answer_that_finds_none_is_lost(self):
        world = full_row()
        before = row_of(world)
        self.assertEqual(keep_in(world, 0), 1)
        self.assertEqual(row_of(world), before)

    def test_a_letter_taken_out_makes_room_for_its_answer(self):
        world = full_row()
        self.assertEqual(take_in(world, 0), 1)
        self.assertEqual((len(world.row), row_of(world)[99]), (100, (1, 0, 1, 1, 0, True)))

    def test_the_first_in_order_find_room(self):
        world = full_row()
        world.row = world.row[:98]
        wish_in(world, 1)
        self.assertEqual(row_of(world)[98:], [(0, 0, 1, 1, 0, False), (0, 2, 1, 1, 0, False)])

    def test_every_letter_of_a_full_row_may_be_taken(self):
        world = full_row()
        world.nodes[1].runs = False
        for place in range(99, -1, -1):
            if world.row[place].whom == 1:
                self.assertEqual(take_in(world, place), 0)
        self.assertEqual(len(world.row), 75)
        self.assertEqual([take_in(world, 75), keep_in(world, 74)], [-1, 1])


class LongLine(unittest.TestCase):
    def test_a_hundred_calls(self):
        self.assertEqual(last(begin(0, 10, [1] * 5), *([elapse(1000, [1000] * 5)] * 99)), 99000)


if __name__ == "__main__":
    unittest.main()

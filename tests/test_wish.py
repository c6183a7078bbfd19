"""Promise 3: wish; and how it goes when a node asks or leads at once."""

import unittest

from holdsforsure.world import wish as wish_in
from tests.helper import ASKS, FOLLOWS, LEADS, THREE, ZERO_HOLDS, ZERO_LEADS
from tests.helper import begin, keep, last, picture, promised, row_of, run, take, wish, world_of


class Wish(unittest.TestCase):
    def test_it_has_asked_who_would(self):
        world = world_of([1, 1, 1])
        world.nodes[1].term = 4
        world.nodes[1].rank = 3
        self.assertEqual(wish_in(world, 1), 2)
        self.assertEqual(world.nodes[1].would, [1])
        self.assertEqual(world.nodes[1].state, FOLLOWS)
        self.assertEqual(world.nodes[1].term, 4)
        self.assertEqual(row_of(world), [(0, 0, 1, 5, 3, False), (0, 2, 1, 5, 3, False)])

    def test_half_isnt_most(self):
        self.assertEqual(run(begin(0, 10, [1, 1]), wish(0)), [0, 2])
        self.assertEqual(run(begin(0, 10, [3, 2, 1]), wish(0)), [0, 2])
        self.assertEqual(run(begin(0, 10, [4, 2, 1]), wish(0)), [0, 4])

    def test_a_heavy_node_alone_leads_at_once(self):
        world = world_of([1, 3, 1])
        world.nodes[1].rank = 2
        node = world.nodes[1]
        self.assertEqual(wish_in(world, 1), 4)
        self.assertEqual((node.state, node.term, node.voted, node.would, node.votes), (LEADS, 1, 1, None, [1]))
        self.assertEqual((node.round_number, node.given, node.holds_until), (0, [], 0))
        self.assertEqual(row_of(world), [(0, 0, 1, 1, 2, False), (0, 2, 1, 1, 2, False),
                                         (2, 0, 1, 1, 2, False), (2, 2, 1, 1, 2, False)])

    def test_one_node_alone(self):
        self.assertEqual(run(begin(0, 10, [1]), wish(0), wish(0), keep(0)), [0, 4, -2, -1])

    def test_a_node_that_weighs_nothing(self):
        line = [begin(0, 10, [0, 9]), wish(0), take(0), take(0), take(0), take(0), wish(0)]
        self.assertEqual(run(*line), [0, 2, 1, 3, 1, 4, -2])

    def test_bound_against_itself_nobody_would(self):
        world = world_of([1, 3])
        promised(world.nodes[1], 0, 0, 1)
        self.assertEqual(wish_in(world, 1), 2)
        self.assertEqual(world.nodes[1].would, [])
        self.assertEqual(row_of(world), [(0, 0, 1, 1, 0, False)])
        world.nodes[1].clock = 1
        self.assertEqual(wish_in(world, 1), 4)

    def test_keeping_still_nobody_would(self):
        world = world_of([1])
        world.nodes[0].still_until = 5
        world.nodes[0].clock = 4
        self.assertEqual(wish_in(world, 0), 2)
        self.assertEqual(world.nodes[0].would, [])
        world.nodes[0].clock = 5
        self.assertEqual(wish_in(world, 0), 4)

    def test_a_promise_to_itself_doesnt_bind_against_itself(self):
        world = world_of([1])
        promised(world.nodes[0], 0, 1, 50)
        self.assertEqual(wish_in(world, 0), 4)

    def test_to_wish_anew_begins_the_count_anew(self):
        line = [begin(0, 10, [1] * 5), wish(0), keep(0), take(4), wish(0), take(4)]
        self.assertEqual(run(*line), [0, 2, 1, 2, 2, 1])
        world = world_of([1] * 5)
        world.nodes[0].would = [0, 3]
        self.assertEqual(wish_in(world, 0), 2)
        self.assertEqual(world.nodes[0].would, [0])

    def test_one_that_asks_may_wish_and_still_asks(self):
        world = world_of([1, 1, 1])
        node = world.nodes[0]
        node.state, node.term, node.voted, node.votes = ASKS, 1, 0, [0]
        self.assertEqual(wish_in(world, 0), 2)
        self.assertEqual((node.state, node.term, node.voted, node.votes, node.would), (ASKS, 1, 0, [0], [0]))
        self.assertEqual(row_of(world), [(0, 1, 0, 2, 0, False), (0, 2, 0, 2, 0, False)])

    def test_a_heavy_one_that_asks_wishes_and_leads_the_next_term(self):
        world = world_of([3, 1])
        node = world.nodes[0]
        node.state, node.term, node.voted, node.votes = ASKS, 1, 0, [0]
        self.assertEqual(wish_in(world, 0), 4)
        self.assertEqual((node.state, node.term), (LEADS, 2))

    def test_refusals_in_order(self):
        self.assertEqual(run(THREE, wish(2), wish(3), wish(9)), [0, 2, -1, -1])
        self.assertEqual(last(THREE, *ZERO_LEADS, wish(0)), -2)
        world = world_of([1, 1])
        world.nodes[0].state = LEADS
        world.nodes[1].state = LEADS
        world.nodes[1].runs = False
        before = picture(world)
        self.assertEqual([wish_in(world, place) for place in (0, 1, 2)], [-2, -3, -1])
        self.assertEqual(picture(world), before)
        world.nodes[1].state = FOLLOWS
        self.assertEqual(wish_in(world, 1), -3)

    def test_whoever_has_promised_another_is_bound(self):
        line = [THREE] + ZERO_HOLDS + [wish(1), take(3), take(4)]
        self.assertEqual(run(*line)[-3:], [2, 1, 0])


if __name__ == "__main__":
    unittest.main()

"""Promise 5: leave, by which a node lets go and hands over."""

import unittest

from holdsforsure.world import leave as leave_in
from tests.helper import ASKS, FOLLOWS, LEADS, THREE, ZERO_HOLDS
from tests.helper import begin, last, leave, picture, promise_of, promised, renew, row_of, run, take, wish, world_of


def holding(weights):
    world = world_of(weights)
    node = world.nodes[1]
    node.state, node.term, node.voted, node.votes = LEADS, 4, 1, [1, 0]
    node.round_number, node.round_begun, node.given, node.holds_until = 3, 2, [1, 0], 102
    promised(node, 1, 4, 102)
    return world


class Leave(unittest.TestCase):
    def test_it_lets_go(self):
        world = holding([1, 1, 1])
        node = world.nodes[1]
        self.assertEqual(leave_in(world, 1, 2), 0)
        self.assertEqual((node.state, node.given, node.holds_until, promise_of(node)), (FOLLOWS, [], 0, None))
        self.assertEqual((node.term, node.voted, node.votes), (4, 1, [1, 0]))
        self.assertEqual((node.round_number, node.round_begun), (3, 2))
        self.assertEqual(row_of(world), [(6, 0, 1, 4, 0, False), (6, 2, 1, 4, 0, True)])

    def test_for_one_who_is_no_node(self):
        world = holding([1, 1, 1])
        self.assertEqual(leave_in(world, 1, 9), 0)
        self.assertEqual(row_of(world), [(6, 0, 1, 4, 0, False), (6, 2, 1, 4, 0, False)])

    def test_for_itself(self):
        world = holding([1, 1, 1])
        self.assertEqual(leave_in(world, 1, 1), 0)
        self.assertEqual([letter[5] for letter in row_of(world)], [False, False])

    def test_a_promise_to_another_stays(self):
        world = holding([1, 1, 1])
        promised(world.nodes[1], 0, 3, 50)
        leave_in(world, 1, 2)
        self.assertEqual(promise_of(world.nodes[1]), (0, 3, 50))

    def test_without_a_promise(self):
        world = holding([1, 1, 1])
        world.nodes[1].promise = None
        self.assertEqual(leave_in(world, 1, 0), 0)

    def test_once_only(self):
        self.assertEqual(run(THREE, *ZERO_HOLDS, leave(0, 1), leave(0, 1), renew(0))[-3:], [0, -2, -2])

    def test_refusals_in_order(self):
        self.assertEqual(run(THREE, leave(0, 1), leave(3, 0), leave(9, 9)), [0, -2, -1, -1])
        world = world_of([1, 1])
        world.nodes[0].state = ASKS
        world.nodes[1].runs = False
        before = picture(world)
        self.assertEqual([leave_in(world, place, 0) for place in (0, 1, 2)], [-2, -3, -1])
        self.assertEqual(picture(world), before)
        world.nodes[1].state = LEADS
        self.assertEqual(leave_in(world, 1, 0), -3)


class HandingOver(unittest.TestCase):
    def test_nobody_need_wait(self):
        # Left in the row: would you, vote and promise to node 2; then free to 1 and to 2. No time
        # passes, and node 1 leads and holds.
        line = [THREE] + ZERO_HOLDS + [leave(0, 1), take(3), take(4), take(5), renew(1), take(5), take(6)]
        self.assertEqual(run(*line)[-7:], [0, 3, 1, 4, 1, 1, 5])

    def test_to_another_its_promise_is_gone_alone(self):
        line = [THREE] + ZERO_HOLDS + [leave(0, 2), take(3), wish(1)]
        self.assertEqual(run(*line)[-3:], [0, 7, 2])

    def test_a_heavy_one_leads_at_once(self):
        # Node 0 can't lead without the heavy node 1, which promised it and then takes over.
        line = [begin(0, 100, [1, 3]), wish(0), take(0), take(0), take(0), take(0),
                renew(0), take(0), take(0), leave(0, 1), take(0)]
        self.assertEqual(run(*line), [0, 2, 1, 3, 1, 4, 1, 1, 5, 0, 4])

    def test_one_who_never_promised_is_handed_nothing(self):
        line = [THREE] + ZERO_HOLDS + [leave(0, 2), take(4)]
        self.assertEqual(last(*line), 0)


if __name__ == "__main__":
    unittest.main()

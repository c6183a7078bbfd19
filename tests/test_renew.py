"""Promise 4: renew, which begins a round."""

import unittest

from holdsforsure.world import elapse as elapse_in
from holdsforsure.world import renew as renew_in
from holdsforsure.world import take as take_in
from tests.helper import ASKS, LEADS, THREE, ZERO_LEADS
from tests.helper import begin, last, leave, picture, promise_of, promised, renew, row_of, run, take, wish
from tests.helper import world_of


def leading(weights, w=0, long=100):
    world = world_of(weights, w, long)
    node = world.nodes[0]
    node.state, node.term, node.voted, node.votes = LEADS, 7, 0, [0]
    return world


class Renew(unittest.TestCase):
    def test_rounds_are_counted(self):
        self.assertEqual(run(THREE, *ZERO_LEADS, renew(0), renew(0), renew(0))[-3:], [1, 2, 3])

    def test_rounds_are_counted_anew_by_who_leads_anew(self):
        line = [begin(0, 10, [1]), wish(0), renew(0), renew(0), leave(0, 0), wish(0), renew(0)]
        self.assertEqual(run(*line), [0, 4, 1, 2, 0, 4, 1])

    def test_it_gives_itself_a_promise(self):
        world = leading([1, 1, 1], long=40)
        node = world.nodes[0]
        node.clock = 30
        self.assertEqual(renew_in(world, 0), 1)
        self.assertEqual((node.round_number, node.round_begun, node.given), (1, 30, [0]))
        self.assertEqual(promise_of(node), (0, 7, 70))
        self.assertEqual(node.holds_until, 0)
        self.assertEqual(row_of(world), [(4, 1, 0, 7, 1, False), (4, 2, 0, 7, 1, False)])

    def test_who_gave_in_an_earlier_round_counts_no_more(self):
        world = leading([1, 1, 1])
        world.nodes[0].given = [0, 1, 2]
        renew_in(world, 0)
        self.assertEqual(world.nodes[0].given, [0])

    def test_bound_against_itself_nobody_gives(self):
        world = leading([3, 1])
        node = world.nodes[0]
        node.given = [0, 1]
        promised(node, 1, 6, 20)
        node.clock = 19
        self.assertEqual(renew_in(world, 0), 1)
        self.assertEqual((node.given, node.holds_until, promise_of(node)), ([], 0, (1, 6, 20)))
        node.clock = 20
        self.assertEqual(renew_in(world, 0), 2)
        self.assertEqual((node.given, node.holds_until, promise_of(node)), ([0], 120, (0, 7, 120)))

    def test_a_heavy_node_alone_holds_for_the_span(self):
        # 100 * 800 / 1200, rounded down.
        world = leading([3, 1], w=200)
        node = world.nodes[0]
        node.clock = 5
        renew_in(world, 0)
        self.assertEqual((node.holds_until, promise_of(node)), (71, (0, 7, 105)))

    def test_it_never_holds_for_less_than_it_did(self):
        world = leading([3, 1])
        node = world.nodes[0]
        node.holds_until = 500
        renew_in(world, 0)
        self.assertEqual(node.holds_until, 500)

    def test_refusals_in_order(self):
        self.assertEqual(run(THREE, renew(0), renew(3), renew(9)), [0, -2, -1, -1])
        self.assertEqual(last(THREE, wish(0), take(0), take(1), renew(0)), -2)
        world = world_of([1, 1])
        world.nodes[0].state = ASKS
        world.nodes[1].runs = False
        before = picture(world)
        self.assertEqual([renew_in(world, place) for place in (0, 1, 2)], [-2, -3, -1])
        self.assertEqual(picture(world), before)
        world.nodes[1].state = LEADS
        self.assertEqual(renew_in(world, 1), -3)


class HowLongItHolds(unittest.TestCase):
    def test_from_when_the_round_was_begun(self):
        world = leading([1, 1, 1], w=200)
        elapse_in(world, 10, [8, 12, 10])
        renew_in(world, 0)
        elapse_in(world, 30, [30, 30, 30])
        self.assertEqual([take_in(world, 0), take_in(world, 1)], [1, 5])
        self.assertEqual(world.nodes[0].holds_until, 8 + 66)
        self.assertEqual(promise_of(world.nodes[1]), (0, 7, 42 + 100))

    def test_a_promise_counted_late_makes_it_hold_no_later(self):
        # Node 0's two others give their promises in the same round: the second changes nothing.
        line = [THREE] + ZERO_LEADS + [renew(0), take(2), take(2), take(2), take(2)]
        self.assertEqual(run(*line)[-4:], [1, 1, 5, 2])


if __name__ == "__main__":
    unittest.main()

"""Promise 6: rank."""

import unittest

from holdsforsure.world import raise_rank
from tests.helper import THREE, begin, picture, rank, run, take, wish, world_of


class Rank(unittest.TestCase):
    def test_it_rises_or_stays(self):
        self.assertEqual(run(THREE, rank(0, 0), rank(0, 3), rank(0, 3), rank(0, 9), rank(0, 9)), [0] * 6)

    def test_nine_and_ten(self):
        self.assertEqual(run(THREE, rank(1, 9), rank(2, 10), rank(2, 20)), [0, 0, -2, -2])

    def test_below_its_own(self):
        self.assertEqual(run(THREE, rank(1, 4), rank(1, 3), rank(1, 0), rank(0, 3)), [0, 0, -2, -2, 0])

    def test_no_such_node_comes_first(self):
        self.assertEqual(run(THREE, rank(2, 1), rank(3, 1), rank(9, 20)), [0, 0, -1, -1])

    def test_running_or_not(self):
        world = world_of([1, 1])
        world.nodes[1].runs = False
        self.assertEqual(raise_rank(world, 1, 6), 0)
        self.assertEqual([node.rank for node in world.nodes], [0, 6])

    def test_a_refusal_changes_nothing(self):
        world = world_of([1, 1])
        raise_rank(world, 0, 5)
        before = picture(world)
        for place, number in ((0, 4), (0, 10), (2, 7)):
            self.assertLess(raise_rank(world, place, number), 0)
            self.assertEqual(picture(world), before)

    def test_who_ranks_lower_isnt_voted_for(self):
        line = [begin(0, 100, [1, 1]), wish(0), take(0), take(0)]
        self.assertEqual(run(*line), [0, 2, 1, 3])
        line = [begin(0, 100, [1, 1]), rank(1, 1), wish(0), take(0), take(0)]
        self.assertEqual(run(*line), [0, 0, 2, 1, 0])
        line = [begin(0, 100, [1, 1]), rank(1, 1), rank(0, 1), wish(0), take(0), take(0)]
        self.assertEqual(run(*line), [0, 0, 0, 2, 1, 3])


if __name__ == "__main__":
    unittest.main()

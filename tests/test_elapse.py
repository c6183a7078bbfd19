"""Promise 2: pass, which the interface calls elapse."""

import unittest

from holdsforsure.world import elapse as elapse_in
from tests.helper import begin, elapse, picture, run, world_of

TWO = begin(100, 100, [1, 1])


class Elapse(unittest.TestCase):
    def test_true_time_adds_up(self):
        told = run(TWO, elapse(10, [10, 10]), elapse(0, [0, 0]), elapse(1000, [1000, 900]), elapse(1, [1, 1]))
        self.assertEqual(told, [0, 10, 10, 1010, 1011])

    def test_each_clock_goes_on_by_its_number(self):
        world = world_of([1, 1, 1], w=100)
        self.assertEqual(elapse_in(world, 10, [9, 10, 11]), 10)
        self.assertEqual(elapse_in(world, 20, [18, 22, 20]), 30)
        self.assertEqual([node.clock for node in world.nodes], [27, 32, 31])

    def test_clocks_of_stopped_nodes_too(self):
        world = world_of([1, 1])
        world.nodes[1].runs = False
        elapse_in(world, 5, [5, 5])
        self.assertEqual(world.nodes[1].clock, 5)

    def test_how_much_may_pass(self):
        self.assertEqual(run(TWO, elapse(1000, [1000, 1000])), [0, 1000])
        self.assertEqual(run(TWO, elapse(1001, [1001, 1001])), [0, -1])
        self.assertEqual(run(TWO, elapse(2000, [2000, 2000])), [0, -1])

    def test_a_clock_at_both_ends_and_beyond(self):
        for place in (0, 1):
            for clock, expected in ((89, -1), (90, 100), (110, 100), (111, -1)):
                clocks = [100, 100]
                clocks[place] = clock
                self.assertEqual(run(TWO, elapse(100, clocks)), [0, expected], clocks)

    def test_a_long_time(self):
        world = begin(100, 100, [1])
        told = [run(world, elapse(1000, [clock]))[1] for clock in (899, 900, 1100, 1101)]
        self.assertEqual(told, [-1, 1000, 1000, -1])
        world = begin(0, 100, [1])
        told = [run(world, elapse(1000, [clock]))[1] for clock in (999, 1000, 1001)]
        self.assertEqual(told, [-1, 1000, -1])

    def test_ends_that_are_no_whole_numbers(self):
        # 15 thousandths wrong: 9850 to 10150 thousandths of 10, so 10 alone.
        world = begin(15, 100, [1])
        told = [run(world, elapse(10, [clock]))[1] for clock in (9, 10, 11)]
        self.assertEqual(told, [-1, 10, -1])
        # 5 with 200 wrong: 4 to 6; 4 with 200 wrong: 3.2 to 4.8.
        world = begin(200, 100, [1])
        self.assertEqual([run(world, elapse(5, [clock]))[1] for clock in (3, 4, 6, 7)], [-1, 5, 5, -1])
        self.assertEqual([run(world, elapse(4, [clock]))[1] for clock in (3, 4, 5)], [-1, 4, -1])

    def test_clocks_that_go_right(self):
        world = begin(0, 100, [1])
        self.assertEqual([run(world, elapse(7, [clock]))[1] for clock in (6, 7, 8)], [-1, 7, -1])

    def test_nothing_passes(self):
        self.assertEqual(run(TWO, elapse(0, [0, 0]), elapse(0, [1, 0]), elapse(0, [0, 1])), [0, 0, -1, -1])

    def test_a_list_too_short_or_too_long(self):
        self.assertEqual(run(TWO, elapse(5, [5]), elapse(5, []), elapse(5, [5] * 3), elapse(5, [5] * 10)),
                         [0, -1, -1, -1, -1])

    def test_a_refusal_changes_nothing(self):
        world = world_of([1, 1], w=100)
        elapse_in(world, 10, [9, 11])
        before = picture(world)
        for d, clocks in ((1001, [1001, 1001]), (10, [10]), (10, [10, 10, 10]), (10, [10, 12]), (10, [8, 10])):
            self.assertEqual(elapse_in(world, d, clocks), -1)
            self.assertEqual(picture(world), before)


if __name__ == "__main__":
    unittest.main()

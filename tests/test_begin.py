"""Promise 1, and what is answered where there is no world."""

import unittest

from holdsforsure.parts import span_of
from holdsforsure.world import answers
from tests.helper import ZERO_HOLDS
from tests.helper import begin, elapse, holds, keep, last, leave, led, letters, look, lose, node, rank, renew, run
from tests.helper import start, stop, take, wish, world_of


class Begin(unittest.TestCase):
    def test_ordinary(self):
        self.assertEqual(run(begin(100, 500, [1, 2, 3])), [0])
        self.assertEqual(run(begin(0, 1, [1])), [0])

    def test_how_wrong_clocks_go(self):
        self.assertEqual(run(begin(200, 1000, [1])), [0])
        self.assertEqual(run(begin(201, 1000, [1])), [-1])
        self.assertEqual(run(begin(999, 1000, [1])), [-1])

    def test_how_long_promises_are(self):
        self.assertEqual(run(begin(0, 1000, [1])), [0])
        self.assertEqual(run(begin(0, 1001, [1])), [-1])
        self.assertEqual(run(begin(0, 2000, [1])), [-1])

    def test_a_span_of_nothing(self):
        self.assertEqual(run(begin(0, 0, [1])), [-1])
        self.assertEqual(run(begin(1, 1, [1])), [-1])
        self.assertEqual(run(begin(200, 1, [1])), [-1])
        self.assertEqual(run(begin(200, 2, [1])), [0])
        self.assertEqual(run(begin(1, 2, [1])), [0])

    def test_how_many_weights(self):
        self.assertEqual(run(begin(0, 10, [])), [-1])
        self.assertEqual(run(begin(0, 10, [1] * 5)), [0])
        self.assertEqual(run(begin(0, 10, [1] * 6)), [-1])
        self.assertEqual(run(begin(0, 10, [1] * 10)), [-1])

    def test_how_heavy(self):
        self.assertEqual(run(begin(0, 10, [9, 9, 0])), [0])
        self.assertEqual(run(begin(0, 10, [1, 10])), [-1])
        self.assertEqual(run(begin(0, 10, [20, 1])), [-1])

    def test_all_weigh_nothing(self):
        self.assertEqual(run(begin(0, 10, [0])), [-1])
        self.assertEqual(run(begin(0, 10, [0] * 5)), [-1])
        self.assertEqual(run(begin(0, 10, [0, 0, 1])), [0])

    def test_a_refused_one_leaves_the_world(self):
        told = run(begin(0, 10, [1, 1]), elapse(7, [7, 7]), wish(0),
                   begin(201, 10, [1]), elapse(1, [1, 1]), keep(0), begin(0, 10, []), elapse(1, [1, 1]))
        self.assertEqual(told, [0, 7, 2, -1, 8, 1, -1, 9])

    def test_a_second_makes_a_new_world(self):
        told = run(begin(0, 10, [1, 1]), elapse(7, [7, 7]), rank(0, 5), wish(0), keep(0),
                   begin(0, 10, [1, 1, 1]), keep(0), rank(0, 1), elapse(3, [3, 3, 3]), elapse(1, [1, 1]))
        self.assertEqual(told, [0, 7, 0, 2, 1, 0, -1, 0, 3, -1])

    def test_a_second_has_nothing_of_the_old_one(self):
        old = [begin(100, 60, [1, 1, 1, 2]), rank(1, 3), wish(3), take(0), take(0), take(0), elapse(5, [5] * 4),
               begin(0, 100, [1, 1, 1])] + ZERO_HOLDS + [elapse(5, [5] * 3), rank(2, 4), stop(1), start(1), stop(2)]
        for weights in ([1], [1, 1, 1], [1] * 5):
            new = begin(200, 30, weights)
            self.assertEqual(look(*old, new), look(new))
            self.assertEqual(look(*old, new, wish(0), lose(0), stop(0)), look(new, wish(0), lose(0), stop(0)))

    def test_a_refused_one_changes_nothing(self):
        line = [begin(0, 100, [1, 1, 1])] + ZERO_HOLDS + [stop(2), wish(1)]
        for refused in (begin(201, 100, [1]), begin(0, 0, [1]), begin(0, 100, []), begin(0, 100, [0, 0])):
            self.assertEqual(look(*line, refused), look(*line))


class AsAtFirst(unittest.TestCase):
    def test_the_world(self):
        world = world_of([3, 0, 4], w=100, long=50)
        self.assertEqual((world.true_time, world.row, world.weights), (0, [], [3, 0, 4]))
        self.assertEqual((world.wrong, world.long, world.span, len(world.nodes)), (100, 50, 40, 3))

    def test_each_node(self):
        for node in world_of([1, 1]).nodes:
            self.assertEqual((node.runs, node.clock, node.term, node.voted, node.rank), (True, 0, 0, -1, 0))
            self.assertEqual((node.state, node.promise, node.still_until, node.would), (0, None, 0, None))
            self.assertEqual((node.votes, node.round_number, node.round_begun), ([], 0, 0))
            self.assertEqual((node.given, node.holds_until), ([], 0))

    def test_the_span(self):
        spans = [span_of(w, long) for w, long in ((0, 1000), (0, 1), (200, 1000), (1, 1000), (200, 3), (50, 7))]
        self.assertEqual(spans, [1000, 1, 666, 998, 2, 6])

    def test_promises_are_as_long_as_told(self):
        # Nodes 1 and 2 promise node 0; as long as that runs node 1 wouldn't vote for node 2.
        for long in (1, 60, 1000):
            start = [begin(0, long, [1, 1, 1])] + ZERO_HOLDS + [keep(2), wish(2), elapse(long - 1, [long - 1] * 3)]
            self.assertEqual(run(*start, take(5), take(5))[-2:], [1, 0])
            self.assertEqual(run(*start, elapse(1, [1] * 3), wish(2), take(7), take(7))[-2:], [1, 3])


class NoWorld(unittest.TestCase):
    def test_each_call(self):
        calls = [elapse(1, [1]), elapse(2000, []), wish(0), renew(0), leave(0, 1), rank(0, 20),
                 take(0), keep(200), lose(0), stop(9), start(0), letters(), node(0), holds(), led()]
        self.assertEqual(run(*calls), [-9] * 15)
        for call in calls:
            self.assertEqual(run(call), [-9])
            self.assertEqual(run(call, begin(0, 2000, [1]), call, begin(0, 5, [1]), keep(0)),
                             [-9, -1, -9, 0, -1])

    def test_calls_of_every_shape(self):
        calls = [8, 0, 9, 1, 10, 2, 11, 12, 3, 13, 14, 2, 0]
        self.assertEqual(answers(calls), [1, -9] * 8)

    def test_a_refused_begin_makes_none(self):
        self.assertEqual(run(begin(0, 0, [1]), wish(0), begin(0, 1, [1]), wish(0)), [-1, -9, 0, 4])

    def test_what_looks_like_a_begin_in_a_row_is_none(self):
        self.assertEqual(last(elapse(0, [0, 0, 1, 1, 1]), wish(0)), -9)


if __name__ == "__main__":
    unittest.main()

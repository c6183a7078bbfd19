"""Promises 7 and 8: what comes of a letter of each kind, at one node."""

import unittest

from tests.helper import ASKS, FOLLOWS, LEADS, NOBODY
from tests.helper import give, picture, promise_of, promised, row_of, world_of

WOULD_YOU, WOULD, VOTE, VOTED, PROMISE, PROMISED, FREE = range(7)


def one_of(weights, **values):
    """A world and its node 0, which has these values."""
    world = world_of(weights)
    for name, value in values.items():
        setattr(world.nodes[0], name, value)
    return world, world.nodes[0]


class KindTest(unittest.TestCase):
    def assert_no_use(self, world, *letter):
        before = picture(world)
        self.assertEqual(give(world, *letter), 0)
        self.assertEqual(picture(world), before)


class ToAStoppedNode(KindTest):
    def test_every_kind_is_of_no_use(self):
        for kind in range(7):
            world, node = one_of([1, 1, 1], runs=False, term=1, would=[0], state=ASKS, votes=[0])
            promised(node, 1, 2, 0)
            self.assert_no_use(world, kind, 0, 1, 2, 0, True)


class WouldYou(KindTest):
    def answer(self, world, term, number):
        before = picture(world)[:3]
        self.assertEqual(give(world, WOULD_YOU, 0, 1, term, number), 1)
        self.assertEqual(picture(world)[:3], before)
        return row_of(world)[-1]

    def test_the_term(self):
        world, node = one_of([1, 1], term=3, rank=0)
        self.assertEqual(self.answer(world, 4, 0), (WOULD, 1, 0, 4, 0, True))
        self.assertEqual(self.answer(world, 9, 0), (WOULD, 1, 0, 9, 0, True))
        self.assertEqual(self.answer(world, 3, 0), (WOULD, 1, 0, 3, 0, False))
        self.assertEqual(self.answer(world, 2, 0), (WOULD, 1, 0, 2, 0, False))

    def test_the_rank(self):
        world, node = one_of([1, 1], rank=5)
        self.assertEqual([self.answer(world, 1, number)[5] for number in (4, 5, 6)], [False, True, True])

    def test_bound(self):
        world, node = one_of([1, 1, 1], clock=9)
        promised(node, 2, 0, 10)
        self.assertFalse(self.answer(world, 1, 0)[5])
        node.clock = 10
        self.assertTrue(self.answer(world, 1, 0)[5])
        promised(node, 1, 0, 50)
        self.assertTrue(self.answer(world, 1, 0)[5])
        promised(node, 0, 0, 50)
        self.assertFalse(self.answer(world, 1, 0)[5])

    def test_keeping_still_binds_against_all(self):
        world, node = one_of([1, 1], clock=9, still_until=10)
        promised(node, 1, 0, 50)
        self.assertFalse(self.answer(world, 1, 0)[5])
        node.clock = 10
        self.assertTrue(self.answer(world, 1, 0)[5])


class Would(KindTest):
    def test_counted(self):
        world, node = one_of([1] * 5, term=2, would=[0])
        self.assertEqual(give(world, WOULD, 0, 3, 3, 0, True), 2)
        self.assertEqual((node.would, node.state, node.term, world.row), ([0, 3], FOLLOWS, 2, []))

    def test_most_would_so_it_asks(self):
        world, node = one_of([1, 1, 1], term=2, rank=4, would=[0], given=[1], holds_until=7, votes=[0, 2])
        self.assertEqual(give(world, WOULD, 0, 2, 3, 0, True), 3)
        self.assertEqual((node.state, node.term, node.voted, node.would, node.votes), (ASKS, 3, 0, None, [0]))
        self.assertEqual((node.given, node.holds_until), ([], 0))
        self.assertEqual(row_of(world), [(VOTE, 1, 0, 3, 4, False), (VOTE, 2, 0, 3, 4, False)])

    def test_most_by_weight(self):
        world, node = one_of([1, 2, 3], would=[0])
        self.assertEqual(give(world, WOULD, 0, 1, 1, 0, True), 2)
        world, node = one_of([1, 2, 3], would=[0])
        self.assertEqual(give(world, WOULD, 0, 2, 1, 0, True), 3)

    def test_asks_and_at_once_leads(self):
        # No line of calls comes here (one so heavy asks when it wishes), but the words tell of it.
        world, node = one_of([3, 1, 1], would=[0])
        self.assertEqual(give(world, WOULD, 0, 1, 1, 0, True), 4)
        self.assertEqual((node.state, node.term), (LEADS, 1))

    def test_of_no_use(self):
        world, node = one_of([1, 1, 1], term=2)
        self.assert_no_use(world, WOULD, 0, 1, 3, 0, True)
        node.would = [0]
        self.assert_no_use(world, WOULD, 0, 1, 3, 0, False)
        self.assert_no_use(world, WOULD, 0, 1, 2, 0, True)
        self.assert_no_use(world, WOULD, 0, 1, 4, 0, True)
        world, node = one_of([1] * 5, would=[0, 2])
        self.assert_no_use(world, WOULD, 0, 2, 1, 0, True)

    def test_wishing_with_nobody_yet(self):
        world, node = one_of([1, 1, 1], would=[])
        self.assertEqual(give(world, WOULD, 0, 1, 1, 0, True), 2)
        self.assertEqual(give(world, WOULD, 0, 2, 1, 0, True), 3)


class Vote(KindTest):
    def test_a_greater_term_is_heard_of_and_voted_in(self):
        world, node = one_of([1, 1, 1], term=1, voted=0, state=LEADS, would=[0], votes=[0, 2], given=[0],
                             holds_until=9, round_number=4, round_begun=3, clock=50)
        promised(node, 2, 1, 50)
        self.assertEqual(give(world, VOTE, 0, 1, 3, 0), 1)
        self.assertEqual((node.term, node.voted, node.state, node.would), (3, 1, FOLLOWS, None))
        self.assertEqual((node.votes, node.given, node.holds_until), ([], [], 0))
        self.assertEqual((node.round_number, node.round_begun, promise_of(node)), (4, 3, (2, 1, 50)))
        self.assertEqual(row_of(world), [(VOTED, 1, 0, 3, 0, True)])

    def test_its_own_term(self):
        for voted, yes, after in ((NOBODY, True, 1), (1, True, 1), (2, False, 2), (0, False, 0)):
            world, node = one_of([1, 1, 1], term=3, voted=voted)
            self.assertEqual(give(world, VOTE, 0, 1, 3, 0), 1)
            self.assertEqual(node.voted, after)
            self.assertEqual(row_of(world), [(VOTED, 1, 0, 3, 0, yes)])

    def test_in_its_own_term_it_wishes_on(self):
        world, node = one_of([1, 1, 1], term=3, would=[0])
        give(world, VOTE, 0, 1, 3, 0)
        self.assertEqual((node.would, node.voted), ([0], 1))

    def test_a_term_gone_by(self):
        world, node = one_of([1, 1], term=3)
        self.assertEqual(give(world, VOTE, 0, 1, 2, 9), 1)
        self.assertEqual((node.term, node.voted), (3, NOBODY))
        self.assertEqual(row_of(world), [(VOTED, 1, 0, 3, 0, False)])

    def test_the_rank(self):
        for number, yes in ((4, False), (5, True), (6, True)):
            world, node = one_of([1, 1], rank=5)
            self.assertEqual(give(world, VOTE, 0, 1, 2, number), 1)
            self.assertEqual((node.term, node.voted), (2, 1 if yes else NOBODY))
            self.assertEqual(row_of(world), [(VOTED, 1, 0, 2, 0, yes)])

    def test_bound_it_is_of_no_use(self):
        world, node = one_of([1, 1, 1], clock=9)
        promised(node, 2, 0, 10)
        self.assert_no_use(world, VOTE, 0, 1, 5, 9)
        node.clock = 10
        self.assertEqual(give(world, VOTE, 0, 1, 5, 9), 1)
        world, node = one_of([1, 1, 1], clock=9, still_until=10)
        self.assert_no_use(world, VOTE, 0, 1, 5, 9)

    def test_a_promise_to_who_asks_doesnt_bind(self):
        world, node = one_of([1, 1, 1])
        promised(node, 1, 0, 10)
        self.assertEqual(give(world, VOTE, 0, 1, 5, 9), 1)
        self.assertEqual(promise_of(node), (1, 0, 10))


class Voted(KindTest):
    def test_counted(self):
        world, node = one_of([1] * 5, term=2, state=ASKS, votes=[0])
        self.assertEqual(give(world, VOTED, 0, 4, 2, 0, True), 2)
        self.assertEqual((node.votes, node.state), ([0, 4], ASKS))

    def test_most_have_so_it_leads(self):
        world, node = one_of([1] * 3, term=2, state=ASKS, votes=[0], would=[0], round_number=5,
                             round_begun=4, given=[1], holds_until=8)
        self.assertEqual(give(world, VOTED, 0, 2, 2, 0, True), 4)
        self.assertEqual((node.state, node.votes, node.would, node.term), (LEADS, [0, 2], None, 2))
        self.assertEqual((node.round_number, node.round_begun, node.given, node.holds_until), (0, 4, [], 0))
        self.assertEqual(world.row, [])

    def test_a_greater_term(self):
        for state in (FOLLOWS, ASKS, LEADS):
            for yes in (True, False):
                world, node = one_of([1, 1, 1], term=2, voted=0, state=state, votes=[0], would=[0], holds_until=8)
                self.assertEqual(give(world, VOTED, 0, 1, 3, 0, yes), 6)
                self.assertEqual((node.term, node.voted, node.state, node.votes), (3, NOBODY, FOLLOWS, []))
                self.assertEqual((node.would, node.holds_until), (None, 0))

    def test_of_no_use(self):
        world, node = one_of([1] * 5, term=2, state=ASKS, votes=[0, 3])
        self.assert_no_use(world, VOTED, 0, 1, 2, 0, False)
        self.assert_no_use(world, VOTED, 0, 1, 1, 0, True)
        self.assert_no_use(world, VOTED, 0, 3, 2, 0, True)
        for state in (FOLLOWS, LEADS):
            node.state = state
            self.assert_no_use(world, VOTED, 0, 1, 2, 0, True)


class AskedForAPromise(KindTest):
    def test_it_promises(self):
        world, node = one_of([1, 1, 1], term=2, clock=30, voted=1, would=[0], votes=[0])
        promised(node, 2, 1, 30)
        self.assertEqual(give(world, PROMISE, 0, 1, 2, 6), 1)
        self.assertEqual(promise_of(node), (1, 2, 130))
        self.assertEqual((node.would, node.term, node.voted, node.votes), (None, 2, 1, [0]))
        self.assertEqual(row_of(world), [(PROMISED, 1, 0, 2, 6, True)])

    def test_it_promises_the_same_for_longer(self):
        world, node = one_of([1, 1, 1], term=2, clock=30)
        promised(node, 1, 2, 50)
        self.assertEqual(give(world, PROMISE, 0, 1, 2, 7), 1)
        self.assertEqual(promise_of(node), (1, 2, 130))

    def test_one_that_asks_follows(self):
        world, node = one_of([1, 1, 1], term=2, voted=0, state=ASKS, votes=[0])
        self.assertEqual(give(world, PROMISE, 0, 1, 2, 1), 1)
        self.assertEqual((node.state, node.term, node.voted, node.votes), (FOLLOWS, 2, 0, [0]))

    def test_a_greater_term_is_heard_of(self):
        for state in (FOLLOWS, ASKS, LEADS):
            world, node = one_of([1, 1, 1], term=2, voted=0, state=state, votes=[0], given=[0], holds_until=8)
            self.assertEqual(give(world, PROMISE, 0, 1, 5, 1), 1)
            self.assertEqual((node.term, node.voted, node.state, node.votes), (5, NOBODY, FOLLOWS, []))
            self.assertEqual((node.given, node.holds_until, promise_of(node)), ([], 0, (1, 5, 100)))
            self.assertEqual(row_of(world), [(PROMISED, 1, 0, 5, 1, True)])

    def refused(self, world, term):
        before = picture(world)[:3]
        self.assertEqual(give(world, PROMISE, 0, 1, term, 6), 1)
        self.assertEqual(picture(world)[:3], before)
        self.assertEqual(row_of(world)[-1], (PROMISED, 1, 0, 3, 6, False))

    def test_a_term_gone_by(self):
        world, node = one_of([1, 1, 1], term=3, would=[0])
        self.refused(world, 2)

    def test_bound(self):
        world, node = one_of([1, 1, 1], term=3, clock=9, state=ASKS)
        promised(node, 2, 3, 10)
        self.refused(world, 3)
        self.refused(world, 8)
        promised(node, 0, 3, 10)
        self.refused(world, 8)
        world, node = one_of([1, 1, 1], term=3, clock=9, still_until=10)
        self.refused(world, 3)


class Promised(KindTest):
    def leading(self, weights, **values):
        return one_of(weights, term=2, state=LEADS, round_number=4, round_begun=30, given=[0], clock=60, **values)

    def test_counted(self):
        world, node = self.leading([1] * 5)
        self.assertEqual(give(world, PROMISED, 0, 3, 2, 4, True), 2)
        self.assertEqual((node.given, node.holds_until), ([0, 3], 0))

    def test_it_holds_later(self):
        world, node = self.leading([1] * 5)
        world.span = 70
        give(world, PROMISED, 0, 3, 2, 4, True)
        self.assertEqual(give(world, PROMISED, 0, 1, 2, 4, True), 5)
        self.assertEqual((node.given, node.holds_until), ([0, 3, 1], 100))
        self.assertEqual(give(world, PROMISED, 0, 2, 2, 4, True), 2)
        self.assertEqual((node.given, node.holds_until), ([0, 3, 1, 2], 100))

    def test_never_for_less_than_it_did(self):
        for until, told, after in ((129, 5, 130), (130, 2, 130), (131, 2, 131)):
            world, node = self.leading([1, 1, 1], holds_until=until)
            self.assertEqual(give(world, PROMISED, 0, 1, 2, 4, True), told)
            self.assertEqual(node.holds_until, after)

    def test_a_greater_term(self):
        for yes in (True, False):
            world, node = self.leading([1, 1, 1], voted=0, votes=[0, 1], holds_until=90)
            promised(node, 0, 2, 130)
            self.assertEqual(give(world, PROMISED, 0, 1, 3, 4, yes), 6)
            self.assertEqual((node.term, node.voted, node.state, node.votes), (3, NOBODY, FOLLOWS, []))
            self.assertEqual((node.given, node.holds_until, promise_of(node)), ([], 0, (0, 2, 130)))
        world, node = one_of([1, 1, 1], term=2)
        self.assertEqual(give(world, PROMISED, 0, 1, 3, 4, True), 6)

    def test_of_no_use(self):
        world, node = self.leading([1] * 5)
        node.given = [0, 3]
        self.assert_no_use(world, PROMISED, 0, 1, 2, 4, False)
        self.assert_no_use(world, PROMISED, 0, 1, 1, 4, True)
        self.assert_no_use(world, PROMISED, 0, 1, 2, 3, True)
        self.assert_no_use(world, PROMISED, 0, 1, 2, 5, True)
        self.assert_no_use(world, PROMISED, 0, 3, 2, 4, True)
        for state in (FOLLOWS, ASKS):
            node.state = state
            self.assert_no_use(world, PROMISED, 0, 1, 2, 4, True)


class Free(KindTest):
    def promising(self, weights, **values):
        world, node = one_of(weights, **values)
        promised(node, 1, 2, 100)
        return world, node

    def test_its_promise_is_gone(self):
        world, node = self.promising([1, 1, 1], term=2, would=[0])
        self.assertEqual(give(world, FREE, 0, 1, 2), 7)
        self.assertIsNone(node.promise)
        self.assertEqual((node.state, node.term, node.would, world.row), (FOLLOWS, 2, [0], []))

    def test_one_that_has_run_out_is_gone_too(self):
        world, node = self.promising([1, 1, 1], term=2, clock=500)
        self.assertEqual(give(world, FREE, 0, 1, 2), 7)
        self.assertIsNone(node.promise)

    def test_it_asks_at_once(self):
        world, node = self.promising([1, 1, 1], term=2, voted=1, rank=3)
        self.assertEqual(give(world, FREE, 0, 1, 2, 0, True), 3)
        self.assertEqual((node.state, node.term, node.voted, node.votes), (ASKS, 3, 0, [0]))
        self.assertIsNone(node.promise)
        self.assertEqual(row_of(world), [(VOTE, 1, 0, 3, 3, False), (VOTE, 2, 0, 3, 3, False)])

    def test_it_asks_and_at_once_leads(self):
        world, node = self.promising([3, 1, 1], term=2)
        self.assertEqual(give(world, FREE, 0, 1, 2, 0, True), 4)
        self.assertEqual((node.state, node.term), (LEADS, 3))

    def test_in_a_later_term_it_doesnt_ask(self):
        world, node = self.promising([1, 1, 1], term=3)
        self.assertEqual(give(world, FREE, 0, 1, 2, 0, True), 7)
        self.assertEqual((node.state, node.term, node.promise), (FOLLOWS, 3, None))

    def test_keeping_still_it_doesnt_ask(self):
        world, node = self.promising([1, 1, 1], term=2, clock=9, still_until=10)
        self.assertEqual(give(world, FREE, 0, 1, 2, 0, True), 7)
        self.assertEqual((node.state, node.promise), (FOLLOWS, None))
        world, node = self.promising([1, 1, 1], term=2, clock=10, still_until=10)
        self.assertEqual(give(world, FREE, 0, 1, 2, 0, True), 3)

    def test_of_no_use(self):
        world, node = self.promising([1, 1, 1], term=2)
        self.assert_no_use(world, FREE, 0, 2, 2, 0, True)
        self.assert_no_use(world, FREE, 0, 1, 1, 0, True)
        self.assert_no_use(world, FREE, 0, 1, 3, 0, True)
        node.promise = None
        self.assert_no_use(world, FREE, 0, 1, 2, 0, True)


if __name__ == "__main__":
    unittest.main()

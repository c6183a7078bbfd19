"""Calls by name, laid as the interface asks; worlds and letters to look into."""

from holdsforsure.parts import Letter, Promise, World
from holdsforsure.post import hand_over
from holdsforsure.world import answers

FOLLOWS, ASKS, LEADS = 0, 1, 2
NOBODY = -1


def begin(w, long, weights):
    return [0, w, long, len(weights)] + weights


def elapse(d, clocks):
    return [1, d, len(clocks)] + clocks


def wish(node):
    return [2, node]


def renew(node):
    return [3, node]


def leave(node, whom):
    return [4, node, whom]


def rank(node, number):
    return [5, node, number]


def take(letter):
    return [6, letter]


def keep(letter):
    return [7, letter]


# Node 0 of three equal ones comes to lead term 1; what is left in the row are the
# would you and the vote to node 2.
THREE = begin(0, 100, [1, 1, 1])
ZERO_LEADS = [wish(0), take(0), take(1), take(1), take(2)]
# It then holds by node 1's promise; a third letter, the promise to node 2, is left.
ZERO_HOLDS = ZERO_LEADS + [renew(0), take(2), take(3)]


def run(*calls):
    """The first number of each answer; each of these calls answers just one."""
    flat = [number for call in calls for number in call]
    told = answers(flat)
    assert told[0::2] == [1] * len(calls), told
    return told[1::2]


def last(*calls):
    return run(*calls)[-1]


def world_of(weights, w=0, long=100):
    return World(w, long, list(weights))


def promised(node, whom, term, until):
    node.promise = Promise(whom, term, until)


def promise_of(node):
    if node.promise is None:
        return None
    return (node.promise.whom, node.promise.term, node.promise.until)


def row_of(world):
    return [(x.kind, x.whom, x.sender, x.term, x.number, x.yes) for x in world.row]


def give(world, kind, whom, sender, term, number=0, yes=False):
    return hand_over(world, Letter(kind, whom, sender, term, number, yes))


def picture(world):
    """All that a world holds, to see that nothing has changed."""
    nodes = []
    for node in world.nodes:
        kept = dict(vars(node))
        kept["promise"] = promise_of(node)
        nodes.append(repr(sorted(kept.items())))
    return (world.true_time, world.weights, nodes, row_of(world))

"""Calls by name, laid as the interface asks; worlds and letters to look into."""

from holdsforsure.parts import Letter, Promise, World
from holdsforsure.post import hand_over
from holdsforsure.world import answers

FOLLOWS, ASKS, LEADS = 0, 1, 2
NOBODY = -1


def begin(w, long, weights):
    return [0, w, long, len(weights)] + weights


def elapse(d, clocks):
    return [1, d, len(clocks)] + clocks


def wish(node):
    return [2, node]


def renew(node):
    return [3, node]


def leave(node, whom):
    return [4, node, whom]


def rank(node, number):
    return [5, node, number]


def take(letter):
    return [6, letter]


def keep(letter):
    return [7, letter]


def lose(letter):
    return [8, letter]


def stop(node):
    return [9, node]


def start(node):
    return [10, node]


def letters():
    return [11]


def node(place):
    return [12, place]


def holds():
    return [13]


def led():
    return [14]


# Node 0 of three equal ones comes to lead term 1; what is left in the row are the
# would you and the vote to node 2.
THREE = begin(0, 100, [1, 1, 1])
ZERO_LEADS = [wish(0), take(0), take(1), take(1), take(2)]
# It then holds by node 1's promise; a third letter, the promise to node 2, is left.
ZERO_HOLDS = ZERO_LEADS + [renew(0), take(2), take(3)]


def told(*calls):
    """Each call's answer, as a list of its own."""
    rest = answers([number for call in calls for number in call])
    each = []
    while rest:
        each.append(rest[1:1 + rest[0]])
        assert len(each[-1]) == rest[0] > 0, rest
        rest = rest[1 + rest[0]:]
    assert len(each) == len(calls), each
    return each


def run(*calls):
    """The one number of each answer; each of these calls answers just one."""
    each = told(*calls)
    assert [len(answer) for answer in each] == [1] * len(calls), each
    return [answer[0] for answer in each]


def last(*calls):
    return run(*calls)[-1]


def last_told(*calls):
    return told(*calls)[-1]


def row_told(*calls):
    """The letters in the row behind these calls, six numbers each."""
    answer = last_told(*calls, letters())
    assert len(answer) == 1 + 6 * answer[0], answer
    return [answer[at:at + 6] for at in range(1, len(answer), 6)]


# All that can be asked, of more nodes than there may be.
QUESTIONS = [letters(), holds(), led()] + [node(place) for place in range(6)]


def look(*calls):
    """What all questions answer behind these calls."""
    return told(*calls, *QUESTIONS)[-len(QUESTIONS):]


def numbers_of_list(rest):
    return rest[1:1 + rest[0]], rest[1 + rest[0]:]


def fields(*calls):
    """What the last of these calls, a node, answers, by name."""
    answer = last_told(*calls)
    names = ("runs", "clock", "term", "voted", "rank", "state")
    seen = dict(zip(names, answer))
    seen["promise"], seen["still"], rest = answer[6:9], answer[9], answer[10:]
    if rest[0] == -1:
        seen["would"], rest = None, rest[1:]
    else:
        seen["would"], rest = numbers_of_list(rest)
    seen["votes"], rest = numbers_of_list(rest)
    seen["round"], seen["begun"] = rest[:2]
    seen["given"], rest = numbers_of_list(rest[2:])
    seen["holds"], = rest
    return seen


def world_of(weights, w=0, long=100):
    return World(w, long, list(weights))


def promised(one, whom, term, until):
    one.promise = Promise(whom, term, until)


def promise_of(one):
    if one.promise is None:
        return None
    return (one.promise.whom, one.promise.term, one.promise.until)


def row_of(world):
    return [(x.kind, x.whom, x.sender, x.term, x.number, x.yes) for x in world.row]


def give(world, kind, whom, sender, term, number=0, yes=False):
    return hand_over(world, Letter(kind, whom, sender, term, number, yes))


def picture(world):
    """All that a world holds, to see that nothing has changed."""
    nodes = []
    for one in world.nodes:
        kept = dict(vars(one))
        kept["promise"] = promise_of(one)
        nodes.append(repr(sorted(kept.items())))
    return (world.true_time, world.weights, nodes, row_of(world), list(world.led))

"""How it goes: what a node does when it wishes, asks, leads, begins a round, lets go or begins anew."""

from holdsforsure.parts import ASKS, FOLLOWS, FREE, LEADS, NOBODY, PROMISE, VOTE, WOULD_YOU
from holdsforsure.parts import Letter, Node, Promise

ROOM = 100

NOT_MOST_YET = 2
ASKS_NOW = 3
LEADS_NOW = 4


def is_most(world, members):
    weight = sum([world.weights[member] for member in members])
    return 2 * weight > sum(world.weights)


def is_bound(node, against):
    if node.clock < node.still_until:
        return True
    if node.promise is None:
        return False
    return node.promise.whom != against and node.clock < node.promise.until


def holds_now(node):
    return node.runs and node.state == LEADS and node.clock < node.holds_until


def hear_of_term(node, term):
    # The promise stays: whoever holds by it counts on it in whatever term.
    if term > node.term:
        node.term = term
        node.voted = NOBODY
        node.state = FOLLOWS
        node.would = None
        node.votes = []
        node.given = []
        node.holds_until = 0


def send(world, letter):
    if len(world.row) < ROOM:
        world.row.append(letter)


def send_to_others(world, sender, kind, term, number, yes_to):
    for whom in range(len(world.nodes)):
        if whom != sender:
            send(world, Letter(kind, whom, sender, term, number, whom == yes_to))


def begin_wish(world, place):
    node = world.nodes[place]
    node.would = [] if is_bound(node, place) else [place]
    send_to_others(world, place, WOULD_YOU, node.term + 1, node.rank, NOBODY)
    return ask_if_most_would(world, place)


def ask_if_most_would(world, place):
    if is_most(world, world.nodes[place].would):
        return ask(world, place)
    return NOT_MOST_YET


def ask(world, place):
    node = world.nodes[place]
    node.term = node.term + 1
    node.voted = place
    node.state = ASKS
    node.would = None
    node.votes = [place]
    node.given = []
    node.holds_until = 0
    send_to_others(world, place, VOTE, node.term, node.rank, NOBODY)
    if is_most(world, node.votes):
        return lead(world, place)
    return ASKS_NOW


def lead(world, place):
    node = world.nodes[place]
    node.state = LEADS
    node.would = None
    node.round_number = 0
    node.given = []
    node.holds_until = 0
    world.led.append((node.term, place))
    return LEADS_NOW


def promise_to(world, node, whom, term):
    node.promise = Promise(whom, term, node.clock + world.long)


def begin_round(world, place):
    node = world.nodes[place]
    node.round_number = node.round_number + 1
    node.round_begun = node.clock
    node.given = []
    if not is_bound(node, place):
        node.given = [place]
        promise_to(world, node, place, node.term)
    hold_if_most_gave(world, node)
    send_to_others(world, place, PROMISE, node.term, node.round_number, NOBODY)


def hold_if_most_gave(world, node):
    # From the round's beginning, not from now: the others' promises may be as old as that.
    if is_most(world, node.given):
        node.holds_until = max(node.holds_until, node.round_begun + world.span)


def let_go(world, place, heir):
    node = world.nodes[place]
    node.state = FOLLOWS
    node.given = []
    node.holds_until = 0
    if node.promise is not None and node.promise.whom == place:
        node.promise = None
    send_to_others(world, place, FREE, node.term, 0, heir)


def begin_anew(world, place):
    before = world.nodes[place]
    node = Node()
    node.clock = before.clock
    node.term = before.term
    node.voted = before.voted
    node.rank = before.rank
    # What it had promised is forgotten, so it waits for as long as any promise may still run.
    node.still_until = node.clock + world.long
    world.nodes[place] = node

"""What a letter does at the node that it's handed to, and what is told of it."""

from holdsforsure.parts import ASKS, FOLLOWS, LEADS, NOBODY, PROMISE, PROMISED, VOTE, VOTED, WOULD, WOULD_YOU
from holdsforsure.parts import Letter
from holdsforsure.steps import ask, ask_if_most_would, hear_of_term, hold_if_most_gave, is_bound, is_most, lead
from holdsforsure.steps import promise_to, send

NO_USE = 0
ANSWERED = 1
COUNTED = 2
HOLDS_LATER = 5
HEARD_OF_TERM = 6
PROMISE_GONE = 7


def hand_over(world, letter):
    if not world.nodes[letter.whom].runs:
        return NO_USE
    if letter.kind == WOULD_YOU:
        return get_would_you(world, letter)
    if letter.kind == WOULD:
        return get_would(world, letter)
    if letter.kind == VOTE:
        return get_vote(world, letter)
    if letter.kind == VOTED:
        return get_voted(world, letter)
    if letter.kind == PROMISE:
        return get_promise(world, letter)
    if letter.kind == PROMISED:
        return get_promised(world, letter)
    return get_free(world, letter)


def reply(world, letter, kind, term, number, yes):
    send(world, Letter(kind, letter.sender, letter.whom, term, number, yes))
    return ANSWERED


def get_would_you(world, letter):
    node = world.nodes[letter.whom]
    free = not is_bound(node, letter.sender)
    yes = free and node.term < letter.term and node.rank <= letter.number
    return reply(world, letter, WOULD, letter.term, 0, yes)


def get_would(world, letter):
    node = world.nodes[letter.whom]
    if node.would is None or not letter.yes:
        return NO_USE
    if letter.term != node.term + 1 or letter.sender in node.would:
        return NO_USE
    node.would.append(letter.sender)
    return ask_if_most_would(world, letter.whom)


def get_vote(world, letter):
    node = world.nodes[letter.whom]
    if is_bound(node, letter.sender):
        return NO_USE
    hear_of_term(node, letter.term)
    unspent = node.voted == NOBODY or node.voted == letter.sender
    yes = node.term == letter.term and unspent and node.rank <= letter.number
    if yes:
        node.voted = letter.sender
    return reply(world, letter, VOTED, node.term, 0, yes)


def get_voted(world, letter):
    node = world.nodes[letter.whom]
    if node.term < letter.term:
        hear_of_term(node, letter.term)
        return HEARD_OF_TERM
    if node.state != ASKS or not letter.yes:
        return NO_USE
    if letter.term != node.term or letter.sender in node.votes:
        return NO_USE
    node.votes.append(letter.sender)
    if is_most(world, node.votes):
        return lead(world, letter.whom)
    return COUNTED


def get_promise(world, letter):
    node = world.nodes[letter.whom]
    if node.term > letter.term or is_bound(node, letter.sender):
        return reply(world, letter, PROMISED, node.term, letter.number, False)
    hear_of_term(node, letter.term)
    promise_to(world, node, letter.sender, letter.term)
    node.would = None
    if node.state == ASKS:
        node.state = FOLLOWS
    return reply(world, letter, PROMISED, node.term, letter.number, True)


def get_promised(world, letter):
    node = world.nodes[letter.whom]
    if node.term < letter.term:
        hear_of_term(node, letter.term)
        return HEARD_OF_TERM
    if node.state != LEADS or not letter.yes:
        return NO_USE
    if letter.term != node.term or letter.number != node.round_number or letter.sender in node.given:
        return NO_USE
    held_until = node.holds_until
    node.given.append(letter.sender)
    hold_if_most_gave(world, node)
    return HOLDS_LATER if node.holds_until > held_until else COUNTED


def get_free(world, letter):
    node = world.nodes[letter.whom]
    if node.promise is None:
        return NO_USE
    if node.promise.whom != letter.sender or node.promise.term != letter.term:
        return NO_USE
    node.promise = None
    if letter.yes and node.term == letter.term and not is_bound(node, letter.whom):
        return ask(world, letter.whom)
    return PROMISE_GONE

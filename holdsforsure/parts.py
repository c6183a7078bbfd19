"""What there is: the world, its nodes, their promises, and the letters between them."""

FOLLOWS = 0
ASKS = 1
LEADS = 2

NOBODY = -1

WOULD_YOU = 0
WOULD = 1
VOTE = 2
VOTED = 3
PROMISE = 4
PROMISED = 5
FREE = 6


class Promise:
    def __init__(self, whom, term, until):
        self.whom = whom
        self.term = term
        self.until = until


class Letter:
    def __init__(self, kind, whom, sender, term, number, yes):
        self.kind = kind
        self.whom = whom
        self.sender = sender
        self.term = term
        self.number = number
        self.yes = yes


class Node:
    def __init__(self):
        self.runs = True
        self.clock = 0
        self.term = 0
        self.voted = NOBODY
        self.rank = 0
        self.state = FOLLOWS
        # None where it has given none.
        self.promise = None
        self.still_until = 0
        # None where it doesn't wish: one that wishes while it's bound has an empty list.
        self.would = None
        self.votes = []
        self.round_number = 0
        self.round_begun = 0
        self.given = []
        self.holds_until = 0


class World:
    def __init__(self, wrong, long, weights):
        self.wrong = wrong
        self.long = long
        self.span = span_of(wrong, long)
        self.weights = weights
        self.true_time = 0
        self.nodes = [Node() for weight in weights]
        self.row = []
        # Pairs of a term and who came to lead in it.
        self.led = []


def span_of(wrong, long):
    return long * (1000 - wrong) // (1000 + wrong)

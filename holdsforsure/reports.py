"""What is told of a world when it's asked: its letters, a node, who holds now, who has led."""

from holdsforsure.steps import holds_now

NO_PROMISE = (-1, -1, -1)
NO_WISH = -1


def with_length(members):
    return [len(members)] + members


def report_letters(world):
    told = [len(world.row)]
    for letter in world.row:
        told.extend([letter.kind, letter.whom, letter.sender, letter.term, letter.number])
        told.append(1 if letter.yes else 0)
    return told


def report_node(node):
    told = [1 if node.runs else 0, node.clock, node.term, node.voted, node.rank, node.state]
    told.extend(report_promise(node))
    told.append(node.still_until)
    told.extend([NO_WISH] if node.would is None else with_length(node.would))
    told.extend(with_length(node.votes))
    told.extend([node.round_number, node.round_begun])
    told.extend(with_length(node.given))
    told.append(node.holds_until)
    return told


def report_promise(node):
    if node.promise is None:
        return list(NO_PROMISE)
    return [node.promise.whom, node.promise.term, node.promise.until]


def report_holding(world):
    holding = [place for place, node in enumerate(world.nodes) if holds_now(node)]
    return [world.true_time] + with_length(holding)


def report_led(world):
    told = [len(world.led)]
    for term, place in world.led:
        told.extend([term, place])
    return told

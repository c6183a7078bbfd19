"""The calls on one world, laid one behind another in a list of whole numbers, and their answers."""

from holdsforsure.parts import LEADS, World, span_of
from holdsforsure.post import hand_over
from holdsforsure.reports import report_holding, report_led, report_letters, report_node
from holdsforsure.steps import begin_anew, begin_round, begin_wish, let_go

BEGIN = 0
ELAPSE = 1
WISH = 2
RENEW = 3
LEAVE = 4
RANK = 5
TAKE = 6
KEEP = 7
LOSE = 8
STOP = 9
START = 10
LETTERS = 11
NODE = 12
HOLDS = 13
LED = 14

# How many whole numbers stand behind each call's own, its row not counted.
PLAIN_NUMBERS = (2, 1, 1, 1, 2, 2, 1, 1, 1, 1, 1, 0, 1, 0, 0)

DONE = 0
WRONG = -1
UNFIT = -2
STOPPED = -3
NO_WORLD = -9


def answers(calls):
    world = None
    told = []
    at = 0
    while at < len(calls):
        end = end_of_call(calls, at)
        call = calls[at:end]
        at = end
        if call[0] == BEGIN and begin_is_right(call[1], call[2], call[4:]):
            world = World(call[1], call[2], call[4:])
            answer = [DONE]
        elif call[0] == BEGIN:
            answer = [WRONG]
        elif world is None:
            answer = [NO_WORLD]
        else:
            answer = answer_in(world, call)
        told.append(len(answer))
        told.extend(answer)
    return told


def end_of_call(calls, at):
    end = at + 1 + PLAIN_NUMBERS[calls[at]]
    if calls[at] == BEGIN or calls[at] == ELAPSE:
        return end + 1 + calls[end]
    return end


def answer_in(world, call):
    if call[0] < LETTERS:
        return [carry_out(world, call)]
    if call[0] == LETTERS:
        return report_letters(world)
    if call[0] == NODE:
        return report_node(world.nodes[call[1]]) if call[1] < len(world.nodes) else [WRONG]
    if call[0] == HOLDS:
        return report_holding(world)
    return report_led(world)


def carry_out(world, call):
    if call[0] == ELAPSE:
        return elapse(world, call[1], call[3:])
    if call[0] == WISH:
        return wish(world, call[1])
    if call[0] == RENEW:
        return renew(world, call[1])
    if call[0] == LEAVE:
        return leave(world, call[1], call[2])
    if call[0] == RANK:
        return raise_rank(world, call[1], call[2])
    if call[0] == TAKE:
        return take(world, call[1])
    if call[0] == KEEP:
        return keep(world, call[1])
    if call[0] == LOSE:
        return lose(world, call[1])
    if call[0] == STOP:
        return stop(world, call[1])
    return start(world, call[1])


def begin_is_right(wrong, long, weights):
    if len(weights) < 1 or len(weights) > 5:
        return False
    if max(weights) > 9 or max(weights) == 0:
        return False
    return wrong <= 200 and long <= 1000 and span_of(wrong, long) > 0


def elapse(world, passed, clocks):
    if passed > 1000 or len(clocks) != len(world.nodes):
        return WRONG
    if not all([clock_may_go(world, passed, clock) for clock in clocks]):
        return WRONG
    world.true_time = world.true_time + passed
    for node, clock in zip(world.nodes, clocks):
        node.clock = node.clock + clock
    return world.true_time


def clock_may_go(world, passed, clock):
    return passed * (1000 - world.wrong) <= 1000 * clock <= passed * (1000 + world.wrong)


def wish(world, place):
    refusal = refusal_of(world, place, False)
    if refusal != DONE:
        return refusal
    return begin_wish(world, place)


def renew(world, place):
    refusal = refusal_of(world, place, True)
    if refusal != DONE:
        return refusal
    begin_round(world, place)
    return world.nodes[place].round_number


def leave(world, place, heir):
    refusal = refusal_of(world, place, True)
    if refusal != DONE:
        return refusal
    let_go(world, place, heir)
    return DONE


def refusal_of(world, place, must_lead):
    if place >= len(world.nodes):
        return WRONG
    if not world.nodes[place].runs:
        return STOPPED
    leads = world.nodes[place].state == LEADS
    return DONE if leads == must_lead else UNFIT


def raise_rank(world, place, rank):
    if place >= len(world.nodes):
        return WRONG
    if rank > 9 or rank < world.nodes[place].rank:
        return UNFIT
    world.nodes[place].rank = rank
    return DONE


def take(world, place):
    if place >= len(world.row):
        return WRONG
    letter = world.row.pop(place)
    return hand_over(world, letter)


def keep(world, place):
    if place >= len(world.row):
        return WRONG
    return hand_over(world, world.row[place])


def lose(world, place):
    if place >= len(world.row):
        return WRONG
    world.row.pop(place)
    return DONE


def stop(world, place):
    if place >= len(world.nodes):
        return WRONG
    if not world.nodes[place].runs:
        return UNFIT
    world.nodes[place].runs = False
    return DONE


def start(world, place):
    if place >= len(world.nodes):
        return WRONG
    if world.nodes[place].runs:
        return UNFIT
    begin_anew(world, place)
    return DONE

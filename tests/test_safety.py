"""What it all stands for: at no moment do two hold, and no term has two who lead in it."""

import random
import unittest

from holdsforsure import world as calls
from holdsforsure.reports import report_holding, report_led
from holdsforsure.steps import is_bound
from tests.helper import LEADS, world_of

LINES = 300
STEPS = 800


def holding(world):
    return [place for place, node in enumerate(world.nodes)
            if node.runs and node.state == LEADS and node.clock < node.holds_until]


def pass_some_time(world, chance, slow):
    # Some clocks always go as slowly, others as fast as they may: there a wrong span would show.
    d = chance.choice((0, 5, 10, 20))
    low = -(-d * (1000 - world.wrong) // 1000)
    high = d * (1000 + world.wrong) // 1000
    calls.elapse(world, d, [low if is_slow else high for is_slow in slow])


def some_letter(world, chance):
    # Mostly one of the newest, so that something comes of it; the old ones lie about all the same.
    newest = max(0, len(world.row) - 4)
    return chance.randrange(newest if chance.randrange(8) else 0, len(world.row) + 1)


def step(world, chance, slow):
    place = chance.randrange(len(world.nodes))
    what = chance.randrange(200)
    if what < 150:
        calls.take(world, some_letter(world, chance))
    elif what < 160:
        calls.keep(world, some_letter(world, chance))
    elif what < 170:
        calls.wish(world, place)
    elif what < 180:
        calls.renew(world, place)
    elif what < 182:
        calls.leave(world, place, chance.randrange(6))
    elif what < 195:
        pass_some_time(world, chance, slow)
    elif what < 196:
        calls.lose(world, some_letter(world, chance))
    elif what < 197:
        calls.raise_rank(world, place, chance.randrange(3))
    elif what < 198:
        calls.stop(world, place)
    else:
        calls.start(world, place)


class Safety(unittest.TestCase):
    def watch(self, world, leaders, moment):
        now = holding(world)
        self.assertLessEqual(len(now), 1, moment)
        self.assertEqual(report_holding(world), [world.true_time, len(now)] + now, moment)
        self.assertLessEqual(len(world.row), 100)
        for place, node in enumerate(world.nodes):
            if node.state == LEADS:
                self.assertEqual(leaders.setdefault(node.term, place), place, moment)
        return now

    def test_two_never_hold(self):
        held, changes, anew = 0, 0, 0
        for seed in range(LINES):
            chance = random.Random(seed)
            weights = [1] + [chance.choice((0, 1, 1, 2)) for node in range(chance.randint(2, 4))]
            slow = [chance.randrange(2) == 0 for node in weights]
            world = world_of(weights, w=chance.choice((0, 200, 200)), long=chance.choice((40, 100)))
            leaders, before = {}, None
            for moment in range(STEPS):
                step(world, chance, slow)
                now = self.watch(world, leaders, (seed, moment))
                held += len(now)
                if now:
                    changes += before is not None and before != now
                    before = now
            self.check_led(world, leaders)
            anew += sum(node.still_until > 0 for node in world.nodes)
        # It would be easy for nobody ever to hold, or always the same.
        self.assertGreater(held, 20 * LINES)
        self.assertGreater(changes, LINES // 4)
        self.assertGreater(anew, LINES)

    def check_led(self, world, leaders):
        told = report_led(world)
        pairs = list(zip(told[1::2], told[2::2]))
        self.assertEqual((told[0], len(told)), (len(pairs), 1 + 2 * len(pairs)))
        self.assertEqual(len(dict(pairs)), len(pairs))
        self.assertEqual(dict(pairs), leaders)

    def test_it_holds_no_longer_than_the_promises(self):
        # Who leads has the slowest clock, the others the fastest: it still lets none of them be free
        # while it holds, and holds as long as it can.
        world = world_of([1, 1, 1], w=200, long=1000)
        node = world.nodes[0]
        node.state, node.term = LEADS, 1
        calls.renew(world, 0)
        self.assertEqual([calls.take(world, 0), calls.take(world, 1)], [1, 5])
        held_last = 0
        while is_bound(world.nodes[1], 2):
            if holding(world) == [0]:
                held_last = world.true_time
            calls.elapse(world, 5, [4, 6, 6])
        self.assertEqual((held_last, world.true_time, holding(world)), (830, 835, []))


if __name__ == "__main__":
    unittest.main()

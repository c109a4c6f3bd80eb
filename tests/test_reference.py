"""Boards drawn by chance, always the same ones: each answer is the reference's, and the lot of them is worth asking."""

import collections
import random
import unittest

from ordersatonce.board import answer
from ordersatonce.table import Table
from tests.helper import PLACES, ask, holds
from tests.reference import Reference

QUESTIONS = ("cuts", "agrees", "behind", "ways")


class Drawn:
    """A line on a small crowded board, where orders meet."""

    def __init__(self, seed):
        self.chance = random.Random(seed)
        self.count = self.chance.randint(6, 14)
        self.calls = []

    def often(self, share):
        return self.chance.random() < share

    def province(self):
        return self.chance.randrange(self.count)

    def shore(self):
        return self.chance.choice((1, 2, 3)) if self.often(0.08) else 0

    def lay(self):
        kinds = self.chance.choice(((0,), (2,), (1, 2), (0, 1, 2, 2)))
        self.kinds = [self.chance.choice(kinds) for p in range(self.count)]
        self.calls += [("province", kind) for kind in self.kinds]
        density = self.chance.choice((0.6, 1, 1))
        for q in range(self.count):
            for p in range(q):
                if self.often(density):
                    self.calls.append(("land", p, q))
                if self.often(density):
                    self.calls.append(("sea", p, self.shore(), q, self.shore()))

    def man(self):
        powers = self.chance.randint(1, 4)
        order = list(range(self.count))
        self.chance.shuffle(order)
        for p in order[self.chance.randint(0, 2):]:
            fleet = {0: 0, 1: 1, 2: int(self.often(0.3))}[self.kinds[p]]
            self.calls.append(("unit", self.chance.randrange(powers), fleet, p, self.shore() * fleet))

    def goal(self, p, hot):
        # Some follow one another, some meet in few goals, so that rings, lines and heaps come about.
        return self.chance.choice(((p + 1) % self.count, self.province(), *hot))

    def support(self, p, moves):
        a, q = self.chance.choice(moves) if moves and self.often(0.9) else (self.province(), self.province())
        if self.kinds[p] == 1 and self.often(0.6):
            return ("carry", p, a, q)
        return self.chance.choice((("stay", p, self.province()), ("aid", p, a, q), ("aid", p, a, q)))

    def order_units(self):
        share = self.chance.choice((0.3, 0.4, 0.5, 0.7))
        hot = [self.province() for time in range(2)]
        moves = []
        for p in range(self.count):
            if self.often(share):
                moves.append((p, self.goal(p, hot)))
        self.calls += [("move", p, q, self.shore(), int(self.often(0.2))) for p, q in moves]
        moving = [p for p, q in moves]
        self.calls += [self.support(p, moves) for p in range(self.count) if p not in moving]
        self.calls += [("way", p, int(self.often(0.7))) for p in range(self.count) if self.often(0.6)]
        self.moving = moving

    def telling(self):
        chosen = [p for p in self.moving if self.often(0.5)]
        return chosen + [self.province() for time in range(self.chance.randint(0, 2))]

    def ask(self):
        for p in range(self.count):
            self.calls += [("order", p), ("strengths", p, *self.telling())]
        self.calls += [(name, *self.telling()) for name in QUESTIONS for time in range(3)]
        self.calls += [("most",), ("least",), ("rings",), ("counts",)]

    def change(self):
        p = self.province()
        self.calls += [("gone", p), ("unit", self.chance.randrange(3), 0, p, 0), ("land", p, self.province())]
        if self.often(0.05):
            self.calls += [("clear",), ("province", 2)]

    def line(self):
        self.lay()
        self.man()
        for time in range(2):
            self.order_units()
            self.ask()
            self.change()
        self.ask()
        return self.calls


def ring_calls(chance):
    """Two rings laid on purpose, with rivals and helpers beside them."""
    order = list(range(10))
    chance.shuffle(order)
    calls = [("province", 2) for p in range(10)] + [("land", p, q) for q in range(10) for p in range(q)]
    calls += [("unit", chance.randrange(3), 0, p, 0) for p in order]
    chance.shuffle(order)
    cut = chance.randint(2, 4)
    for ring in (order[:cut], order[cut:7]):
        for p, q in zip(ring, ring[1:] + ring[:1]):
            calls += [("move", p, q, 0, int(len(ring) == 2)), ("way", p, int(chance.random() < 0.9))]
    for p in order[7:]:
        a = chance.choice(order[:7])
        calls.append(chance.choice((("move", p, a, 0, 0), ("hold", p), ("stay", p, a))))
    return calls + [("most",), ("least",), ("rings",), ("agrees", *order[:7]), ("agrees",)]


def chain_calls(chance):
    """Two armies that move by water, and fleets in the seas between, some of them driven out."""
    seas = range(4, 10)
    calls = [("province", 2 if p < 4 else 1) for p in range(10)]
    for q in seas:
        for p in range(q):
            if chance.random() < 0.35:
                calls.append(("sea", p, int(chance.random() < 0.2), q, int(chance.random() < 0.1)))
    calls += [("unit", 0, 0, 0, 0), ("move", 0, 1, 0, 1), ("unit", 1, 0, 2, 0), ("move", 2, 3, 0, 0)]
    for p in seas:
        calls.append(("unit", chance.randrange(2), 1, p, int(chance.random() < 0.1)))
        carry = ("carry", p, *chance.choice(((0, 1), (0, 1), (2, 3))))
        calls.append(chance.choice((carry, carry, carry, ("move", p, chance.choice(seas), 0, 0))))
    calls += [("way", chance.choice((0, 2)), 1), ("ways",)]
    return calls + [("ways", *[p for p in seas if chance.random() < 0.5]) for time in range(3)] + [("ways", *seas)]


class AgainstTheReference(unittest.TestCase):
    def played(self, calls):
        """The answers of each call, held against the reference's."""
        table = Table()
        reference = Reference()
        told = []
        for name, *numbers in calls:
            before = holds(table)
            row = answer(table, PLACES[name], list(numbers))
            if row != reference.call(name, *numbers):
                self.fail(f"{name} {numbers}: {row} behind {calls[:len(told)]}")
            if PLACES[name] >= PLACES["order"] or row[0] < 0:
                self.assertEqual(holds(table), before, name)
            told.append((name, row))
        return told

    def test_crowded_boards(self):
        seen = collections.Counter()
        for seed in range(150):
            for name, row in self.played(Drawn(seed).line()):
                seen[name, row[0], *row[1:2]] += 1
        for wanted in (
            ("cuts", 0, 1), ("cuts", 0, 2), ("agrees", 0, 0), ("agrees", 0, 1), ("most", 0, 2), ("least", 0, 2),
            ("ways", 0, 1), ("strengths", 0, 3), ("strengths", -5), ("way", -5), ("order", -5),
        ):
            self.assertGreater(seen[wanted], 5, wanted)

    def test_rings(self):
        seen = collections.Counter()
        for seed in range(150):
            for name, row in self.played(ring_calls(random.Random(seed))):
                if name == "rings":
                    seen[row[1]] += 1
        self.assertEqual([count for count in range(3) if seen[count] > 10], [0, 1, 2])

    def test_chains(self):
        seen = collections.Counter()
        for seed in range(150):
            for name, row in self.played(chain_calls(random.Random(seed))):
                if name == "ways":
                    seen[row[1]] += 1
        self.assertEqual([count for count in range(3) if seen[count] > 10], [0, 1, 2])

    def test_by_the_interface(self):
        for seed in range(1000, 1020):
            calls = Drawn(seed).line()
            reference = Reference()
            expected = [reference.call(*call) for call in calls]
            self.assertEqual(ask(*calls), expected, seed)


if __name__ == "__main__":
    unittest.main()

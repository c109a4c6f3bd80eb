"""400 calls on a full table: 40 provinces, 300 links of each kind, 24 units, with 24 provinces behind."""

import random
import unittest

from ordersatonce.board import answers
from ordersatonce.table import Table
from tests.helper import ARMY, COAST, FLEET, WATER, do, laid_out, pairs, provinces, rows
from tests.reference import Reference

COASTS = 25
BEHIND = ("cuts", "agrees", "behind", "ways", "strengths")
BARE = ("most", "least", "rings", "counts")


def full_board():
    """Coasts joined by land, each of them with the others; seas joined with them and with one another."""
    calls = provinces(*[COAST] * COASTS, *[WATER] * (40 - COASTS))
    calls += [("land", p, q) for p, q in pairs(COASTS)]
    seas = [(p, q) for p, q in pairs(40) if q >= COASTS]
    return calls + [("sea", p, 0, q, 0) for p, q in seas[:300]]


def manned(chance):
    """18 armies at the coasts and 6 fleets in the seas, all ordered."""
    coasts = chance.sample(range(COASTS), 18)
    seas = chance.sample(range(COASTS, 31), 6)
    calls = [("unit", chance.randrange(3), ARMY, p, 0) for p in coasts]
    calls += [("unit", chance.randrange(3), FLEET, p, 0) for p in seas]
    movers = coasts[:11]
    goals = {p: q for p, q in zip(movers, movers[1:6] + movers[:1] + movers[2:4] + coasts[11:14])}
    calls += [("move", p, q, 0, int(p in movers[:2])) for p, q in goals.items()]
    for p in coasts[11:]:
        a = chance.choice(movers)
        calls.append(chance.choice((("aid", p, a, goals[a]), ("stay", p, chance.choice(coasts[11:])))))
    calls += [("carry", p, movers[p % 2], goals[movers[p % 2]]) for p in seas[:5]]
    return calls + [("move", seas[5], seas[0], 0, 0), ("way", movers[0], 1), ("way", movers[1], 1)]


def questions(chance, count):
    asked = []
    for time in range(count):
        name = chance.choice(BEHIND * 3 + BARE)
        if name in BARE:
            asked.append((name,))
        else:
            ahead = [chance.randrange(31)] if name == "strengths" else []
            asked.append((name, *ahead, *[chance.randrange(31) for place in range(24)]))
    return asked


class FullTable(unittest.TestCase):
    def test_400_calls_on_a_full_table(self):
        # More calls than a line has lay the table, so it is laid by hand.
        chance = random.Random(7)
        table = Table()
        reference = Reference()
        for call in [*full_board(), *manned(chance)]:
            self.assertEqual(do(table, *call)[0], 0, call)
            self.assertEqual(reference.call(*call)[0], 0, call)
        self.assertEqual(do(table, "counts"), [0, 40, 300, 300, 24, 2])
        for refused in (("province", 0), ("sea", 38, 0, 39, 0), ("unit", 0, FLEET, 39, 0)):
            self.assertEqual(do(table, *refused), [-2])
        for call in questions(chance, 400):
            row = do(table, *call)
            self.assertIn(row[0], (0, -5))
            self.assertEqual(row, reference.call(*call), call)

    def test_a_line_of_400_calls(self):
        chance = random.Random(8)
        board = full_board()
        links = chance.sample(board[40:], 130)
        calls = [*board[:40], *links, *manned(chance)]
        calls += questions(chance, 400 - len(calls))
        self.assertEqual(len(calls), 400)
        whole = laid_out(calls)
        self.assertLessEqual(len(whole), 17000)
        told = rows(answers(whole))
        self.assertEqual(len(told), 400)
        reference = Reference()
        for call, row in zip(calls, told):
            self.assertEqual(row, reference.call(*call), call)

    def test_as_many_steps_as_there_are_units(self):
        table = Table()
        for call in full_board():
            do(table, *call)
        for p in range(24):
            do(table, "unit", p % 7, ARMY, p, 0)
            do(table, "move", p, p + 1, 0, 0)
        for time in range(100):
            self.assertEqual(do(table, "most"), [0, 24, *range(24)])
            self.assertEqual(do(table, "least"), [0, 24, *range(24)])
            self.assertEqual(do(table, "agrees", *range(24)), [0, 1])
            self.assertEqual(do(table, "rings"), [0, 0])


if __name__ == "__main__":
    unittest.main()

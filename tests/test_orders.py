"""The promises 6 to 10: hold, move, stay, aid, carry."""

import unittest

from ordersatonce.table import Table
from tests.helper import ARMY, COAST, FLEET, INLAND, WATER, ask, do, holds, last, provinces

# Each order with the four numbers that the unit keeps of it.
ORDERS = (
    (("hold", 0), (0, 0, 0, 0)),
    (("move", 0, 1, 3, 1), (1, 1, 3, 1)),
    (("move", 0, 2, 0, 0), (1, 2, 0, 0)),
    (("stay", 0, 2), (2, 2, 0, 0)),
    (("aid", 0, 1, 2), (3, 1, 2, 0)),
    (("aid", 0, 2, 1), (3, 2, 1, 0)),
    (("carry", 0, 1, 2), (4, 1, 2, 0)),
    (("carry", 0, 2, 1), (4, 2, 1, 0)),
)


def board():
    table = Table()
    for call in [*provinces(COAST, WATER, INLAND), ("unit", 4, ARMY, 0, 0), ("unit", 5, FLEET, 1, 2)]:
        do(table, *call)
    return table


class Given(unittest.TestCase):
    def test_done(self):
        ahead = [*provinces(COAST, COAST, COAST), ("unit", 0, ARMY, 0, 0)]
        for call, kept in ORDERS:
            self.assertEqual(last(*ahead, call), [0], call)

    def test_that_is_its_order_from_now_on(self):
        table = board()
        for call, kept in ORDERS + ORDERS[::-1]:
            self.assertEqual(do(table, *call), [0])
            self.assertEqual(table.units[0].order, kept, call)

    def test_nothing_else_changes(self):
        for call, kept in ORDERS:
            table = board()
            kinds, land, sea, units = holds(table)
            units[0][1]["order"] = kept
            do(table, *call)
            self.assertEqual(holds(table), (kinds, land, sea, units), call)

    def test_each_unit_has_its_own(self):
        table = board()
        do(table, "move", 0, 2, 0, 0)
        do(table, "carry", 1, 0, 2)
        self.assertEqual([unit.order for unit in table.units.values()], [(1, 2, 0, 0), (4, 0, 2, 0)])

    def test_taken_whatever_it_counts_as(self):
        calls = (
            ("move", 0, 0, 0, 0), ("move", 0, 1, 3, 1), ("move", 1, 2, 0, 1), ("stay", 0, 0), ("stay", 0, 2),
            ("aid", 0, 0, 0), ("aid", 0, 1, 1), ("aid", 0, 1, 0), ("carry", 0, 1, 2), ("carry", 1, 0, 0),
            ("carry", 1, 1, 1),
        )
        ahead = [*provinces(COAST, WATER, INLAND), ("unit", 4, ARMY, 0, 0), ("unit", 5, FLEET, 1, 2)]
        for call in calls:
            self.assertEqual(last(*ahead, call), [0], call)

    def test_kept_as_given_whatever_it_counts_as(self):
        table = board()
        do(table, "stay", 0, 0)
        self.assertEqual(table.units[0].order, (2, 0, 0, 0))
        do(table, "aid", 0, 1, 1)
        self.assertEqual(table.units[0].order, (3, 1, 1, 0))


class NoUnit(unittest.TestCase):
    def test_refused(self):
        ahead = provinces(COAST, COAST, COAST)
        for call, kept in ORDERS:
            self.assertEqual(last(*ahead, call), [-5], call)
            self.assertEqual(last(*ahead, ("unit", 0, ARMY, 1, 0), ("unit", 0, ARMY, 2, 0), call), [-5], call)

    def test_refused_after_gone(self):
        ahead = [*provinces(COAST, COAST, COAST), ("unit", 0, ARMY, 0, 0), ("gone", 0)]
        for call, kept in ORDERS:
            self.assertEqual(last(*ahead, call), [-5], call)
            self.assertEqual(last(*ahead, ("unit", 0, ARMY, 0, 0), call), [0], call)

    def test_then_all_is_as_it_was(self):
        table = board()
        do(table, "move", 0, 1, 3, 1)
        before = holds(table)
        for name, *numbers in [call for call, kept in ORDERS]:
            self.assertEqual(do(table, name, 2, *numbers[1:]), [-5])
            self.assertEqual(holds(table), before)

    def test_no_unit_is_made_by_it(self):
        told = ask(*provinces(COAST, COAST), ("hold", 0), ("gone", 0), ("unit", 0, ARMY, 0, 0))
        self.assertEqual(told[2:], [[-5], [-5], [0]])


if __name__ == "__main__":
    unittest.main()

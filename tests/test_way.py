"""The promises 11 and 21: way and counts."""

import unittest

from ordersatonce.table import Table
from tests.helper import ARMY, COAST, FLEET, WATER, ask, army, coasts, do, holds, last, provinces

BOARD = [*provinces(COAST, COAST, COAST), army(3, 1), army(4, 2)]


def ways(*calls):
    """How many ways there are behind these calls on the board."""
    return ask(*BOARD, *calls, ("counts",))[-1][5]


class Way(unittest.TestCase):
    def test_done(self):
        self.assertEqual(last(*BOARD, ("way", 1, 1)), [0])
        self.assertEqual(last(*BOARD, ("way", 1, 0)), [0])

    def test_set_and_taken_back(self):
        self.assertEqual(last(*BOARD, ("order", 1)), [0, 3, 0, 0, 0, 0, 0, 0, 0, 0])
        self.assertEqual(last(*BOARD, ("way", 1, 1), ("order", 1)), [0, 3, 0, 0, 0, 0, 0, 0, 0, 1])
        self.assertEqual(last(*BOARD, ("way", 1, 1), ("order", 2)), [0, 4, 0, 0, 0, 0, 0, 0, 0, 0])
        self.assertEqual(last(*BOARD, ("way", 1, 1), ("way", 1, 0), ("order", 1)), [0, 3, 0, 0, 0, 0, 0, 0, 0, 0])

    def test_told_twice(self):
        self.assertEqual(ways(("way", 1, 1), ("way", 1, 1)), 1)
        self.assertEqual(ways(("way", 1, 1), ("way", 1, 1), ("way", 1, 0)), 0)
        self.assertEqual(ways(("way", 1, 0), ("way", 1, 0)), 0)
        self.assertEqual(ways(("way", 1, 1), ("way", 1, 0), ("way", 1, 0), ("way", 1, 1)), 1)

    def test_each_province_has_its_own(self):
        self.assertEqual(ways(("way", 1, 1), ("way", 2, 1)), 2)
        self.assertEqual(ways(("way", 1, 1), ("way", 2, 1), ("way", 1, 0)), 1)

    def test_whatever_the_unit_and_its_order(self):
        board = [*provinces(WATER, COAST), ("unit", 0, FLEET, 0, 2), ("carry", 0, 1, 0)]
        self.assertEqual(last(*board, ("way", 0, 1), ("order", 0)), [0, 0, 1, 2, 4, 1, 0, 0, 0, 1])

    def test_it_stays_when_the_order_changes(self):
        self.assertEqual(ways(("way", 1, 1), ("move", 1, 2, 0, 1), ("hold", 1), ("stay", 1, 0)), 1)

    def test_gone_takes_it_with_the_unit(self):
        self.assertEqual(ways(("way", 1, 1), ("gone", 1)), 0)
        self.assertEqual(ways(("way", 1, 1), ("way", 2, 1), ("gone", 1)), 1)

    def test_a_unit_set_there_later_has_none(self):
        again = [("way", 1, 1), ("gone", 1), army(5, 1)]
        self.assertEqual(ways(*again), 0)
        self.assertEqual(last(*BOARD, *again, ("order", 1)), [0, 5, 0, 0, 0, 0, 0, 0, 0, 0])

    def test_a_refused_gone_takes_none(self):
        self.assertEqual(ways(("way", 1, 1), ("gone", 0), ("gone", 3)), 1)

    def test_no_unit(self):
        for x in (0, 1):
            self.assertEqual(last(*BOARD, ("way", 0, x)), [-5])
            self.assertEqual(last(*BOARD, ("way", 1, 1), ("gone", 1), ("way", 1, x)), [-5])
        self.assertEqual(ways(("way", 0, 1)), 0)

    def test_outside_comes_ahead_of_no_unit(self):
        for numbers in ((0, 2), (0, -1), (3, 0), (-1, 1)):
            self.assertEqual(last(*BOARD, ("way", *numbers)), [-1])

    def test_after_a_refusal_all_is_as_it_was(self):
        table = Table()
        for call in [*BOARD, ("way", 1, 1)]:
            do(table, *call)
        before = holds(table)
        for numbers, refusal in (((0, 1), -5), ((1, 2), -1), ((1, -1), -1), ((3, 0), -1)):
            self.assertEqual(do(table, "way", *numbers), [refusal])
            self.assertEqual(holds(table), before)


class Counts(unittest.TestCase):
    def test_empty(self):
        self.assertEqual(ask(("counts",)), [[0, 0, 0, 0, 0, 0]])

    def test_each_of_the_five(self):
        calls = [
            *provinces(*[COAST] * 6), ("land", 0, 1), ("land", 1, 2), ("land", 2, 3), ("land", 3, 4),
            ("sea", 0, 0, 1, 0), ("sea", 0, 1, 1, 0), ("sea", 1, 1, 0, 1), *[army(p, p) for p in range(3)],
            ("way", 0, 1), ("way", 2, 1),
        ]
        told = [(0, 0, 0, 0, 0)]
        for name, *numbers in calls:
            at = ("province", "land", "sea", "unit", "way").index(name)
            told.append(tuple(number + (place == at) for place, number in enumerate(told[-1])))
        self.assertEqual(told[-1], (6, 4, 3, 3, 2))
        asked = [call for done in calls for call in (done, ("counts",))]
        self.assertEqual(ask(("counts",), *asked)[::2], [[0, *row] for row in told])

    def test_after_gone(self):
        board = [*coasts(3), army(0, 0), army(0, 2), ("way", 0, 1), ("way", 2, 1)]
        self.assertEqual(last(*board, ("counts",)), [0, 3, 3, 0, 2, 2])
        self.assertEqual(last(*board, ("gone", 0), ("counts",)), [0, 3, 3, 0, 1, 1])

    def test_refused_calls_are_not_counted(self):
        board = [*coasts(3), army(0, 0), ("sea", 0, 0, 1, 0)]
        refused = [
            ("province", 3), ("land", 1, 0), ("land", 1, 1), ("sea", 1, 0, 0, 0), ("sea", 1, 0, 1, 1),
            army(1, 0), ("unit", 1, ARMY, 1, 1), ("way", 1, 1), ("way", 0, 2), ("gone", 1),
        ]
        self.assertEqual(ask(*board, *refused, ("counts",))[-1], [0, 3, 3, 1, 1, 0])

    def test_after_clear(self):
        board = [*coasts(3), army(0, 0), ("sea", 0, 0, 1, 0), ("way", 0, 1)]
        self.assertEqual(last(*board, ("counts",)), [0, 3, 3, 1, 1, 1])
        self.assertEqual(last(*board, ("clear",), ("counts",)), [0, 0, 0, 0, 0, 0])
        self.assertEqual(last(*board, ("clear",), ("province", COAST), army(0, 0), ("counts",)), [0, 1, 0, 0, 1, 0])

    def test_after_a_line(self):
        ask(*coasts(3), army(0, 0), ("way", 0, 1))
        self.assertEqual(ask(("counts",)), [[0, 0, 0, 0, 0, 0]])


if __name__ == "__main__":
    unittest.main()

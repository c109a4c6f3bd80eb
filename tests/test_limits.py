"""The refusal that the calls share: -1, looked at first, for each number of each call."""

import unittest

from ordersatonce.table import Table
from tests.helper import BIG, COAST, WATER, do, holds, last, provinces

# Each call with numbers that it is done with on the board below, and the greatest that each number may be.
CALLS = (
    ("province", (0,), (2,)),
    ("land", (0, 2), (5, 5)),
    ("sea", (0, 0, 2, 0), (5, 3, 5, 3)),
    ("unit", (0, 1, 2, 0), (6, 1, 5, 3)),
    ("gone", (0,), (5,)),
    ("hold", (0,), (5,)),
    ("move", (0, 1, 0, 0), (5, 5, 3, 1)),
    ("stay", (0, 1), (5, 5)),
    ("aid", (0, 1, 2), (5, 5, 5)),
    ("carry", (0, 1, 2), (5, 5, 5)),
)
# Six provinces, so that their range is that of no other number.
COASTS = provinces(*[COAST] * 6)


def board():
    table = Table()
    for call in COASTS:
        do(table, *call)
    do(table, "unit", 1, 1, 0, 2)
    do(table, "unit", 2, 0, 1, 0)
    do(table, "move", 0, 1, 3, 1)
    do(table, "land", 0, 1)
    do(table, "sea", 0, 2, 1, 1)
    return table


def changed(numbers, at, number):
    return numbers[:at] + (number,) + numbers[at + 1:]


class Ranges(unittest.TestCase):
    def test_the_calls_are_done_as_they_stand(self):
        for name, numbers, tops in CALLS:
            self.assertEqual(do(board(), name, *numbers)[0], 0, name)

    def test_just_inside(self):
        for name, numbers, tops in CALLS:
            for at, top in enumerate(tops):
                for number in range(top + 1):
                    with self.subTest(name=name, at=at, number=number):
                        self.assertNotEqual(do(board(), name, *changed(numbers, at, number)), [-1])

    def test_outside(self):
        for name, numbers, tops in CALLS:
            for at, top in enumerate(tops):
                for number in (-1, top + 1, -2, top + 2, -BIG, BIG):
                    with self.subTest(name=name, at=at, number=number):
                        table = board()
                        before = holds(table)
                        self.assertEqual(do(table, name, *changed(numbers, at, number)), [-1])
                        self.assertEqual(holds(table), before)

    def test_outside_by_the_interface(self):
        ahead = [*COASTS, ("unit", 1, 1, 0, 2)]
        for name, numbers, tops in CALLS:
            self.assertEqual(last(*ahead, (name, *numbers))[0], 0, name)
            for at, top in enumerate(tops):
                for number in (-1, top + 1, -BIG, BIG):
                    with self.subTest(name=name, at=at, number=number):
                        self.assertEqual(last(*ahead, (name, *changed(numbers, at, number))), [-1])

    def test_the_range_of_provinces_grows_with_them(self):
        for count in range(1, 41):
            ahead = provinces(*[COAST] * count)
            self.assertEqual(last(*ahead, ("hold", count - 1)), [-5])
            self.assertEqual(last(*ahead, ("hold", count)), [-1])

    def test_without_provinces_each_is_outside(self):
        for name, numbers, tops in CALLS[1:]:
            self.assertEqual(last((name, *[0] * len(numbers))), [-1], name)

    def test_after_clear_each_is_outside(self):
        for name, numbers, tops in CALLS[1:]:
            told = last(*provinces(COAST, COAST, COAST), ("unit", 0, 0, 0, 0), ("clear",), (name, *[0] * len(numbers)))
            self.assertEqual(told, [-1], name)


class LookedAtFirst(unittest.TestCase):
    def test_ahead_of_the_further_refusals(self):
        coasts = provinces(COAST, COAST, WATER)
        full = provinces(*[COAST] * 40)
        self.assertEqual(last(*full, ("province", 3)), [-1])
        self.assertEqual(last(*full, ("province", -1)), [-1])
        self.assertEqual(last(*coasts, ("land", 2, 3)), [-1])
        self.assertEqual(last(*coasts, ("land", 3, 3)), [-1])
        self.assertEqual(last(*coasts, ("sea", 1, 0, 1, 4)), [-1])
        self.assertEqual(last(*coasts, ("sea", 1, -1, 1, 0)), [-1])
        self.assertEqual(last(*coasts, ("unit", 7, 0, 2, 0)), [-1])
        self.assertEqual(last(*coasts, ("unit", 0, 0, 0, 4)), [-1])
        self.assertEqual(last(*coasts, ("unit", 0, 0, 0, 0), ("unit", 7, 0, 0, 0)), [-1])

    def test_ahead_of_no_unit(self):
        coasts = provinces(COAST, COAST, COAST)
        self.assertEqual(last(*coasts, ("move", 0, 3, 0, 0)), [-1])
        self.assertEqual(last(*coasts, ("move", 0, 1, 4, 0)), [-1])
        self.assertEqual(last(*coasts, ("move", 0, 1, 0, 2)), [-1])
        self.assertEqual(last(*coasts, ("stay", 0, 3)), [-1])
        self.assertEqual(last(*coasts, ("aid", 0, 3, 1)), [-1])
        self.assertEqual(last(*coasts, ("aid", 0, 1, 3)), [-1])
        self.assertEqual(last(*coasts, ("carry", 0, 3, 1)), [-1])
        self.assertEqual(last(*coasts, ("carry", 0, 1, 3)), [-1])


if __name__ == "__main__":
    unittest.main()

"""The refusal that the calls share: -1, looked at first, for each number of each call."""

import unittest

from ordersatonce.table import Table
from tests.helper import BIG, COAST, WATER, do, holds, last, provinces

# Each call with numbers that it is done with on the board below, and the greatest that each number may be.
CALLS = (
    ("province", (0,), (2,)),
    ("land", (0, 2), (5, 5)),
    ("sea", (0, 0, 2, 0), (5, 3, 5, 3)),
    ("unit", (0, 1, 2, 0), (6, 1, 5, 3)),
    ("gone", (0,), (5,)),
    ("hold", (0,), (5,)),
    ("move", (0, 1, 0, 0), (5, 5, 3, 1)),
    ("stay", (0, 1), (5, 5)),
    ("aid", (0, 1, 2), (5, 5, 5)),
    ("carry", (0, 1, 2), (5, 5, 5)),
    ("way", (0, 1), (5, 1)),
    ("order", (0,), (5,)),
    ("strengths", (0,), (5,)),
    ("strengths", (0, 1, 2), (5, 5, 5)),
    ("cuts", (0, 1), (5, 5)),
    ("agrees", (0, 1), (5, 5)),
    ("behind", (0, 1), (5, 5)),
    ("ways", (0, 1), (5, 5)),
)
# The calls with provinces behind, and how many numbers stand ahead of these.
WITH_BEHIND = (("strengths", 1), ("cuts", 0), ("agrees", 0), ("behind", 0), ("ways", 0))
# Six provinces, so that their range is that of no other number.
COASTS = provinces(*[COAST] * 6)


def board():
    table = Table()
    for call in COASTS:
        do(table, *call)
    do(table, "unit", 1, 1, 0, 2)
    do(table, "unit", 2, 0, 1, 0)
    do(table, "move", 0, 1, 3, 1)
    do(table, "land", 0, 1)
    do(table, "sea", 0, 2, 1, 1)
    return table


def changed(numbers, at, number):
    return numbers[:at] + (number,) + numbers[at + 1:]


class Ranges(unittest.TestCase):
    def test_the_calls_are_done_as_they_stand(self):
        for name, numbers, tops in CALLS:
            self.assertEqual(do(board(), name, *numbers)[0], 0, name)

    def test_just_inside(self):
        for name, numbers, tops in CALLS:
            for at, top in enumerate(tops):
                for number in range(top + 1):
                    with self.subTest(name=name, at=at, number=number):
                        self.assertNotEqual(do(board(), name, *changed(numbers, at, number)), [-1])

    def test_outside(self):
        for name, numbers, tops in CALLS:
            for at, top in enumerate(tops):
                for number in (-1, top + 1, -2, top + 2, -BIG, BIG):
                    with self.subTest(name=name, at=at, number=number):
                        table = board()
                        before = holds(table)
                        self.assertEqual(do(table, name, *changed(numbers, at, number)), [-1])
                        self.assertEqual(holds(table), before)

    def test_outside_by_the_interface(self):
        ahead = [*COASTS, ("unit", 1, 1, 0, 2)]
        for name, numbers, tops in CALLS:
            self.assertEqual(last(*ahead, (name, *numbers))[0], 0, name)
            for at, top in enumerate(tops):
                for number in (-1, top + 1, -BIG, BIG):
                    with self.subTest(name=name, at=at, number=number):
                        self.assertEqual(last(*ahead, (name, *changed(numbers, at, number))), [-1])

    def test_the_range_of_provinces_grows_with_them(self):
        for count in range(1, 41):
            ahead = provinces(*[COAST] * count)
            self.assertEqual(last(*ahead, ("hold", count - 1)), [-5])
            self.assertEqual(last(*ahead, ("hold", count)), [-1])

    def test_without_provinces_each_is_outside(self):
        for name, numbers, tops in CALLS[1:]:
            self.assertEqual(last((name, *[0] * len(numbers))), [-1], name)

    def test_after_clear_each_is_outside(self):
        for name, numbers, tops in CALLS[1:]:
            told = last(*provinces(COAST, COAST, COAST), ("unit", 0, 0, 0, 0), ("clear",), (name, *[0] * len(numbers)))
            self.assertEqual(told, [-1], name)


class LookedAtFirst(unittest.TestCase):
    def test_ahead_of_the_further_refusals(self):
        coasts = provinces(COAST, COAST, WATER)
        full = provinces(*[COAST] * 40)
        self.assertEqual(last(*full, ("province", 3)), [-1])
        self.assertEqual(last(*full, ("province", -1)), [-1])
        self.assertEqual(last(*coasts, ("land", 2, 3)), [-1])
        self.assertEqual(last(*coasts, ("land", 3, 3)), [-1])
        self.assertEqual(last(*coasts, ("sea", 1, 0, 1, 4)), [-1])
        self.assertEqual(last(*coasts, ("sea", 1, -1, 1, 0)), [-1])
        self.assertEqual(last(*coasts, ("unit", 7, 0, 2, 0)), [-1])
        self.assertEqual(last(*coasts, ("unit", 0, 0, 0, 4)), [-1])
        self.assertEqual(last(*coasts, ("unit", 0, 0, 0, 0), ("unit", 7, 0, 0, 0)), [-1])

    def test_ahead_of_no_unit(self):
        coasts = provinces(COAST, COAST, COAST)
        self.assertEqual(last(*coasts, ("move", 0, 3, 0, 0)), [-1])
        self.assertEqual(last(*coasts, ("move", 0, 1, 4, 0)), [-1])
        self.assertEqual(last(*coasts, ("move", 0, 1, 0, 2)), [-1])
        self.assertEqual(last(*coasts, ("stay", 0, 3)), [-1])
        self.assertEqual(last(*coasts, ("aid", 0, 3, 1)), [-1])
        self.assertEqual(last(*coasts, ("aid", 0, 1, 3)), [-1])
        self.assertEqual(last(*coasts, ("carry", 0, 3, 1)), [-1])
        self.assertEqual(last(*coasts, ("carry", 0, 1, 3)), [-1])
        self.assertEqual(last(*coasts, ("way", 0, 2)), [-1])
        self.assertEqual(last(*coasts, ("strengths", 0, 3)), [-1])
        self.assertEqual(last(*coasts, ("strengths", 0, 1, 2, -1)), [-1])
        self.assertEqual(last(*coasts, ("strengths", 0, *[0] * 25)), [-1])

    def test_then_no_unit(self):
        coasts = provinces(COAST, COAST, COAST)
        for call in (("way", 0, 1), ("order", 0), ("strengths", 0), ("strengths", 0, 1, 2), ("strengths", 0, *[2] * 24)):
            self.assertEqual(last(*coasts, call), [-5], call)


class ProvincesBehind(unittest.TestCase):
    def refused(self, name, *numbers):
        table = board()
        before = holds(table)
        self.assertEqual(do(table, name, *numbers), [-1], (name, numbers))
        self.assertEqual(holds(table), before)
        self.assertEqual(last(*COASTS, ("unit", 1, 1, 0, 2), (name, *numbers)), [-1])

    def done(self, name, *numbers):
        table = board()
        before = holds(table)
        self.assertEqual(do(table, name, *numbers)[0], 0, (name, numbers))
        self.assertEqual(holds(table), before)

    def test_up_to_24(self):
        for name, ahead in WITH_BEHIND:
            for count in range(25):
                self.done(name, *[0] * ahead, *[p % 6 for p in range(count)])

    def test_from_25_on(self):
        for name, ahead in WITH_BEHIND:
            for count in range(25, 100 - ahead):
                self.refused(name, *[0] * ahead, *[p % 6 for p in range(count)])
                self.refused(name, *[0] * ahead, *[0] * count)

    def test_25_of_which_some_are_the_same_are_25(self):
        for name, ahead in WITH_BEHIND:
            self.done(name, *[0] * ahead, *[1] * 24)
            self.refused(name, *[0] * ahead, *[1] * 25)

    def test_one_outside_wherever_it_stands(self):
        for name, ahead in WITH_BEHIND:
            for at in range(ahead + 24):
                for outside in (-1, 6, BIG, -BIG):
                    self.refused(name, *changed((0,) * (ahead + 24), at, outside))

    def test_25_outside(self):
        for name, ahead in WITH_BEHIND:
            self.refused(name, *[6] * (ahead + 25))

    def test_more_provinces_than_24(self):
        table = Table()
        for call in provinces(*[COAST] * 40):
            do(table, *call)
        do(table, "unit", 0, 0, 39, 0)
        for name, ahead in WITH_BEHIND:
            self.assertEqual(do(table, name, *[39] * ahead, *range(16, 40))[0], 0)
            self.assertEqual(do(table, name, *[39] * ahead, *range(15, 40)), [-1])
            self.assertEqual(do(table, name, *[39] * ahead, 40), [-1])

    def test_none_behind_on_an_empty_table(self):
        for name in ("cuts", "agrees", "behind", "ways"):
            self.assertEqual(last((name,)), [0, int(name == "agrees")])


if __name__ == "__main__":
    unittest.main()

"""The promise 14: cuts."""

import unittest

from tests.helper import COAST, FLEET, WATER, armies, army, coasts, inland, last, march, provinces, sail

LAND = inland(9)
COASTS = coasts(9)


class Cuts(unittest.TestCase):
    def cut(self, board, telling, *expected):
        self.assertEqual(last(*board, ("cuts", *telling)), [0, len(expected), *expected], telling)


class Stays(Cuts):
    # 0 stays, 1 helps it to stay, 2 comes into 1.
    BOARD = [*LAND, *armies(0, 0, 1), ("stay", 1, 0)]

    def test_none(self):
        self.cut(LAND, ())
        self.cut(self.BOARD, ())
        self.cut([*self.BOARD, march(2, 3)], ())
        self.cut([*self.BOARD, march(2, 0)], ())

    def test_by_a_unit_of_another_power(self):
        self.cut([*self.BOARD, march(2, 1)], (), 1)
        self.cut([*self.BOARD, march(2, 1)], (2,), 1)

    def test_not_by_one_of_its_own_power(self):
        board = [*self.BOARD, army(0, 3), march(3, 1)]
        self.cut(board, ())
        self.cut(board, (3,))

    def test_by_one_of_the_helped_units_power(self):
        board = [*LAND, *armies(1, 0, 1), ("stay", 1, 0), march(2, 1)]
        self.cut(board, (), 1)

    def test_not_by_one_that_only_helps_a_move(self):
        self.cut([*self.BOARD, army(1, 3), ("aid", 2, 3, 1)], ())

    def test_by_a_move_with_its_way_alone(self):
        board = [*COASTS, *armies(0, 0, 1), ("stay", 1, 0), sail(2, 1)]
        self.cut(board, ())
        self.cut(board, (2,))
        self.cut([*board, ("way", 2, 1)], (), 1)

    def test_not_apt_is_not_told(self):
        self.cut([*self.BOARD, march(2, 1), march(0, 3)], ())
        self.cut([*self.BOARD, march(2, 1), ("gone", 0)], ())
        self.cut([*self.BOARD, march(2, 1), ("stay", 1, 1)], ())

    def test_by_a_unit_that_comes_from_province_0(self):
        # A stay has no q to be told apart from, and its zeros are not taken for one.
        for helped in (2, 3, 4):
            board = [*LAND, *armies(1, 0), army(0, helped), ("stay", 1, helped), march(0, 1)]
            self.cut(board, (), 1)


class Aids(Cuts):
    # 0 moves to 1, 2 aids it; 3 is another power's, and so is the unit in 1.
    BOARD = [*LAND, *armies(0, 1, 0, 1), march(0, 1), ("aid", 2, 0, 1)]

    def test_from_elsewhere(self):
        self.cut(self.BOARD, ())
        self.cut([*self.BOARD, march(3, 2)], (), 2)
        self.cut([*self.BOARD, march(3, 2)], (3,), 2)
        self.cut([*self.BOARD, march(3, 4)], (3,))

    def test_not_by_its_own_power(self):
        board = [*self.BOARD, army(0, 4), march(4, 2)]
        self.cut(board, ())
        self.cut(board, (4,))

    def test_from_the_aids_q(self):
        board = [*self.BOARD, march(1, 2)]
        self.cut(board, ())
        self.cut(board, (0,))
        self.cut(board, (1,), 2)
        self.cut(board, (0, 1), 2)

    def test_from_the_aids_q_whichever_provinces_they_are(self):
        for a, q, p in ((2, 5, 3), (3, 2, 5), (5, 3, 2), (4, 0, 1), (1, 4, 0), (0, 1, 4)):
            board = [*LAND, army(0, a), army(1, q), army(0, p), march(a, q), ("aid", p, a, q), march(q, p)]
            self.cut(board, (a,))
            self.cut(board, (q,), p)

    def test_from_the_aids_q_by_its_own_power(self):
        board = [*LAND, *armies(0, 0, 0), march(0, 1), ("aid", 2, 0, 1), march(1, 2)]
        self.cut(board, (1,))

    def test_from_the_aids_q_and_from_elsewhere(self):
        self.cut([*self.BOARD, march(1, 2), march(3, 2)], (), 2)

    def test_another_that_goes_does_not_make_the_one_from_q_cut(self):
        self.cut([*self.BOARD, march(1, 2), march(3, 4)], (3,))

    def test_from_the_aids_a(self):
        # The unit in a moves into the supporter's province and not to q, so the aid is cut, but isn't apt.
        self.cut([*LAND, *armies(1, 1, 0), march(0, 2), ("aid", 2, 0, 1)], ())

    def test_by_water_from_the_aids_q(self):
        board = [*COASTS, *armies(0, 1, 0), march(0, 1), ("aid", 2, 0, 1), sail(1, 2)]
        self.cut(board, (1,))
        self.cut([*board, ("way", 1, 1)], ())
        self.cut([*board, ("way", 1, 1)], (1,), 2)

    def test_by_water_from_elsewhere(self):
        board = [*COASTS, *armies(0, 1, 0, 1), march(0, 1), ("aid", 2, 0, 1), sail(3, 2)]
        self.cut(board, ())
        self.cut([*board, ("way", 3, 1)], (), 2)

    def test_not_apt_is_not_told(self):
        self.cut([*self.BOARD, march(3, 2), ("hold", 0)], ())
        self.cut([*self.BOARD, march(3, 2), march(0, 4)], ())
        self.cut([*self.BOARD, march(3, 2), ("gone", 0)], ())

    def test_a_fleet_cuts_and_is_cut(self):
        board = [
            *provinces(WATER, COAST, WATER, COAST), ("sea", 0, 0, 1, 2), ("sea", 2, 0, 1, 2), ("sea", 0, 0, 2, 0),
            ("land", 1, 3), ("unit", 0, FLEET, 0, 0), ("unit", 1, FLEET, 2, 0), army(0, 3), march(3, 1),
            ("aid", 0, 3, 1),
        ]
        self.cut(board, ())
        self.cut([*board, ("move", 2, 0, 0, 0)], (), 0)
        self.cut([*board, ("move", 2, 0, 1, 0)], ())


class Several(Cuts):
    def test_rising(self):
        board = [*LAND, *[army(power, p) for power, p in ((0, 6), (0, 4), (0, 2), (0, 0), (1, 1), (1, 3), (1, 5))]]
        orders = [("stay", 6, 0), ("stay", 4, 0), ("aid", 2, 1, 7), march(1, 7)]
        self.cut([*board, *orders, march(3, 4), march(5, 6)], (), 4, 6)
        self.cut([*board, *orders, march(3, 4), march(5, 2)], (), 2, 4)

    def test_by_two_at_once(self):
        board = [*LAND, *armies(0, 0, 1, 2), ("stay", 1, 0), march(2, 1), march(3, 1)]
        self.cut(board, (), 1)

    def test_orders_that_are_no_supports(self):
        self.cut([*LAND, *armies(0, 1), march(0, 1)], ())
        self.cut([*LAND, *armies(0, 1, 2), march(0, 1), march(1, 2)], (0, 1))
        sea = [
            *provinces(WATER, COAST, COAST, WATER), ("sea", 0, 0, 3, 0), ("unit", 0, FLEET, 0, 0), army(0, 1),
            sail(1, 2), ("carry", 0, 1, 2), ("unit", 1, FLEET, 3, 0), ("move", 3, 0, 0, 0),
        ]
        self.cut(sea, (3,))


class Telling(Cuts):
    def test_named_twice_without_unit_or_without_move(self):
        board = [*LAND, *armies(0, 1, 0, 1), march(0, 1), ("aid", 2, 0, 1), march(1, 2)]
        self.cut(board, (1, 1, 1), 2)
        self.cut(board, (3, 5, 2, 8))

    def test_outside(self):
        self.assertEqual(last(*LAND, ("cuts", 9)), [-1])
        self.assertEqual(last(*LAND, ("cuts", 0, -1)), [-1])


if __name__ == "__main__":
    unittest.main()

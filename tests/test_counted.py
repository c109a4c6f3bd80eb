"""The promise 12: order, the order as it counts, and which support is apt."""

import unittest

from tests.helper import ARMY, COAST, FLEET, INLAND, WATER, army, ask, last, march, provinces, sail

HOLD = [0, 0, 0, 0]


class Counted(unittest.TestCase):
    def counts_as(self, board, call, expected):
        """The order given by the call counts as these four numbers."""
        told = last(*board, call, ("order", call[1]))
        self.assertEqual(told[0], 0)
        self.assertEqual(len(told), 10)
        self.assertEqual(told[4:8], expected, call)


class Order(Counted):
    def test_power_fleet_and_shore(self):
        board = provinces(COAST, WATER, INLAND)
        self.assertEqual(last(*board, ("unit", 6, FLEET, 0, 3), ("order", 0)), [0, 6, 1, 3, 0, 0, 0, 0, 0, 0])
        self.assertEqual(last(*board, ("unit", 1, FLEET, 1, 2), ("order", 1)), [0, 1, 1, 2, 0, 0, 0, 0, 0, 0])
        self.assertEqual(last(*board, ("unit", 0, ARMY, 2, 0), ("order", 2)), [0, 0, 0, 0, 0, 0, 0, 0, 0, 0])

    def test_no_unit(self):
        self.assertEqual(last(*provinces(COAST), ("order", 0)), [-5])
        self.assertEqual(last(*provinces(COAST), army(0, 0), ("gone", 0), ("order", 0)), [-5])

    def test_outside_comes_ahead_of_no_unit(self):
        self.assertEqual(last(*provinces(COAST), ("order", 1)), [-1])
        self.assertEqual(last(*provinces(COAST), ("order", -1)), [-1])

    def test_hold(self):
        board = [*provinces(INLAND, INLAND), ("land", 0, 1), army(2, 0)]
        self.counts_as([*board, march(0, 1)], ("hold", 0), HOLD)

    def test_the_last_one_given_counts(self):
        board = [*provinces(INLAND, INLAND), ("land", 0, 1), army(2, 0)]
        self.counts_as([*board, ("stay", 0, 1)], march(0, 1), [1, 1, 0, 0])
        self.counts_as([*board, march(0, 1)], ("stay", 0, 1), [2, 1, 0, 0])
        self.counts_as([*board, march(0, 1)], ("stay", 0, 0), HOLD)

    def test_it_counts_otherwise_after_a_link_laid_later(self):
        board = [*provinces(INLAND, INLAND, INLAND), army(0, 0)]
        later = (
            (march(0, 1), [1, 1, 0, 0]), (("stay", 0, 1), [2, 1, 0, 0]), (("aid", 0, 2, 1), [3, 2, 1, 0]),
        )
        for call, counted in later:
            told = ask(*board, call, ("order", 0), ("land", 1, 0), ("order", 0))
            self.assertEqual((told[-3][4:8], told[-1][4:8]), (HOLD, counted))

    def test_by_water_until_a_link_of_land_is_laid(self):
        told = ask(*provinces(COAST, COAST), army(0, 0), march(0, 1), ("order", 0), ("land", 0, 1), ("order", 0))
        self.assertEqual((told[-3][4:8], told[-1][4:8]), ([1, 1, 0, 1], [1, 1, 0, 0]))

    def test_a_fleets_move_after_a_link_laid_later(self):
        board = [*provinces(WATER, COAST), ("unit", 0, FLEET, 0, 1), ("move", 0, 1, 2, 0)]
        told = ask(*board, ("order", 0), ("sea", 0, 1, 1, 1), ("order", 0), ("sea", 1, 2, 0, 1), ("order", 0))
        self.assertEqual([row[4:8] for row in told[-5::2]], [HOLD, HOLD, [1, 1, 2, 0]])


class FleetMoves(Counted):
    # A fleet at shore 1 of a sea, joined with shore 2 of a coast; another shore of the sea is joined with shore 3.
    BOARD = [
        *provinces(WATER, COAST, COAST), ("sea", 0, 1, 1, 2), ("sea", 0, 2, 1, 3), ("land", 1, 2),
        ("unit", 0, FLEET, 0, 1),
    ]

    def test_at_the_told_shore(self):
        self.counts_as(self.BOARD, ("move", 0, 1, 2, 0), [1, 1, 2, 0])

    def test_whichever_end_was_told_first(self):
        board = [*provinces(WATER, COAST), ("sea", 1, 2, 0, 1), ("unit", 0, FLEET, 0, 1)]
        self.counts_as(board, ("move", 0, 1, 2, 0), [1, 1, 2, 0])
        board = [*provinces(WATER, COAST), ("sea", 1, 2, 0, 1), ("unit", 0, FLEET, 1, 2)]
        self.counts_as(board, ("move", 1, 0, 1, 0), [1, 0, 1, 0])

    def test_at_another_shore(self):
        for t in (0, 1, 3):
            self.counts_as(self.BOARD, ("move", 0, 1, t, 0), HOLD)

    def test_from_another_shore(self):
        board = [*self.BOARD[:-1], ("unit", 0, FLEET, 0, 2)]
        self.counts_as(board, ("move", 0, 1, 2, 0), HOLD)
        self.counts_as(board, ("move", 0, 1, 3, 0), [1, 1, 3, 0])

    def test_with_water(self):
        self.counts_as(self.BOARD, ("move", 0, 1, 2, 1), HOLD)

    def test_between_coasts(self):
        board = [*provinces(COAST, COAST), ("land", 0, 1), ("unit", 0, FLEET, 0, 0)]
        for water in (0, 1):
            self.counts_as(board, ("move", 0, 1, 0, water), HOLD)
        self.counts_as([*board, ("sea", 0, 0, 1, 0)], ("move", 0, 1, 0, 0), [1, 1, 0, 0])
        self.counts_as([*board, ("sea", 0, 0, 1, 0)], ("move", 0, 1, 0, 1), HOLD)

    def test_where_no_link_leads(self):
        self.counts_as(self.BOARD, ("move", 0, 2, 0, 0), HOLD)

    def test_to_its_own_province(self):
        for t in range(4):
            self.counts_as(self.BOARD, ("move", 0, 0, t, 0), HOLD)


class ArmyMoves(Counted):
    def test_along_a_link_of_land(self):
        for kinds in ((INLAND, INLAND), (INLAND, COAST), (COAST, INLAND), (COAST, COAST)):
            board = [*provinces(*kinds), ("land", 0, 1), army(0, 0)]
            for t in range(4):
                self.counts_as(board, ("move", 0, 1, t, 0), [1, 1, 0, 0])

    def test_along_a_link_of_land_with_water(self):
        for kinds in ((INLAND, INLAND), (INLAND, COAST), (COAST, INLAND)):
            self.counts_as([*provinces(*kinds), ("land", 0, 1), army(0, 0)], sail(0, 1), HOLD)
        for t in range(4):
            board = [*provinces(COAST, COAST), ("land", 0, 1), army(0, 0)]
            self.counts_as(board, ("move", 0, 1, t, 1), [1, 1, 0, 1])

    def test_the_link_goes_both_ways(self):
        self.counts_as([*provinces(INLAND, INLAND), ("land", 0, 1), army(0, 1)], march(1, 0), [1, 0, 0, 0])

    def test_by_water_between_coasts(self):
        board = [*provinces(COAST, COAST), army(0, 0)]
        for t in range(4):
            for water in (0, 1):
                self.counts_as(board, ("move", 0, 1, t, water), [1, 1, 0, 1])

    def test_by_water_where_one_is_no_coast(self):
        for kinds in ((INLAND, COAST), (COAST, INLAND), (INLAND, INLAND), (COAST, WATER), (INLAND, WATER)):
            for water in (0, 1):
                self.counts_as([*provinces(*kinds), army(0, 0)], ("move", 0, 1, 0, water), HOLD)

    def test_a_link_of_sea_is_not_for_armies(self):
        board = [*provinces(COAST, WATER, COAST), ("sea", 0, 0, 1, 0), ("sea", 0, 0, 2, 0), army(0, 0)]
        self.counts_as(board, march(0, 1), HOLD)
        self.counts_as(board, march(0, 2), [1, 2, 0, 1])

    def test_to_its_own_province(self):
        for kind in (INLAND, COAST):
            for water in (0, 1):
                self.counts_as([*provinces(kind), army(0, 0)], ("move", 0, 0, 0, water), HOLD)


class Reached(Counted):
    """Stays and aids: 1 is reached, 2 is not, and 3 is a unit's province far off."""

    LAND = [*provinces(INLAND, INLAND, INLAND, INLAND), ("land", 0, 1), ("land", 1, 2), army(0, 0)]
    SEA = [
        *provinces(WATER, COAST, COAST, COAST), ("sea", 0, 1, 1, 2), ("sea", 0, 2, 2, 0), ("sea", 1, 2, 2, 0),
        ("land", 1, 2), ("unit", 0, FLEET, 0, 1),
    ]

    def test_stay(self):
        for board in (self.LAND, self.SEA):
            self.counts_as(board, ("stay", 0, 1), [2, 1, 0, 0])
            self.counts_as(board, ("stay", 0, 2), HOLD)
            self.counts_as(board, ("stay", 0, 0), HOLD)

    def test_aid(self):
        for board in (self.LAND, self.SEA):
            self.counts_as(board, ("aid", 0, 3, 1), [3, 3, 1, 0])
            self.counts_as(board, ("aid", 0, 2, 1), [3, 2, 1, 0])
            self.counts_as(board, ("aid", 0, 1, 2), HOLD)

    def test_an_aids_three_provinces_are_three(self):
        for board in (self.LAND, self.SEA):
            self.counts_as(board, ("aid", 0, 1, 1), HOLD)
            self.counts_as(board, ("aid", 0, 0, 1), HOLD)
            self.counts_as(board, ("aid", 0, 1, 0), HOLD)
            self.counts_as(board, ("aid", 0, 0, 0), HOLD)

    def test_a_fleet_reaches_a_province_at_whatever_shore(self):
        for t in range(4):
            board = [*provinces(COAST, COAST, COAST), ("sea", 0, 3, 1, t), ("unit", 0, FLEET, 0, 3)]
            self.counts_as(board, ("stay", 0, 1), [2, 1, 0, 0])
            self.counts_as(board, ("aid", 0, 2, 1), [3, 2, 1, 0])

    def test_a_fleet_reaches_nothing_from_another_shore(self):
        board = [*provinces(COAST, COAST, COAST), ("sea", 0, 3, 1, 0), ("land", 0, 1), ("unit", 0, FLEET, 0, 0)]
        self.counts_as(board, ("stay", 0, 1), HOLD)
        self.counts_as(board, ("aid", 0, 2, 1), HOLD)

    def test_an_army_reaches_nothing_by_water(self):
        board = [*provinces(COAST, COAST, WATER), ("sea", 0, 0, 1, 0), ("sea", 0, 0, 2, 0), army(0, 0)]
        self.counts_as(board, ("stay", 0, 1), HOLD)
        self.counts_as(board, ("stay", 0, 2), HOLD)
        self.counts_as(board, ("aid", 0, 2, 1), HOLD)
        self.counts_as(board, ("aid", 0, 1, 2), HOLD)


class Carry(Counted):
    def test_of_a_fleet_in_a_sea(self):
        board = [*provinces(WATER, COAST, COAST, INLAND), ("unit", 0, FLEET, 0, 2)]
        self.counts_as(board, ("carry", 0, 1, 2), [4, 1, 2, 0])
        self.counts_as(board, ("carry", 0, 2, 1), [4, 2, 1, 0])

    def test_whatever_its_two_provinces_are(self):
        board = [*provinces(WATER, COAST, COAST, INLAND), ("unit", 0, FLEET, 0, 2)]
        self.counts_as(board, ("carry", 0, 3, 2), [4, 3, 2, 0])
        self.counts_as(board, ("carry", 0, 0, 2), [4, 0, 2, 0])
        self.counts_as(board, ("carry", 0, 2, 0), [4, 2, 0, 0])

    def test_from_a_province_to_itself(self):
        board = [*provinces(WATER, COAST), ("unit", 0, FLEET, 0, 0)]
        self.counts_as(board, ("carry", 0, 1, 1), HOLD)
        self.counts_as(board, ("carry", 0, 0, 0), HOLD)

    def test_of_a_fleet_at_a_coast(self):
        self.counts_as([*provinces(COAST, COAST, COAST), ("unit", 0, FLEET, 0, 0)], ("carry", 0, 1, 2), HOLD)

    def test_of_an_army(self):
        for kind in (COAST, INLAND):
            self.counts_as([*provinces(kind, COAST, COAST), army(0, 0)], ("carry", 0, 1, 2), HOLD)


class Apt(unittest.TestCase):
    BOARD = [*provinces(*[INLAND] * 4), *[("land", p, q) for q in range(4) for p in range(q)], army(0, 0)]

    def apt(self, *calls):
        return last(*self.BOARD, *calls, ("order", 0))[8]

    def test_a_stay_where_a_unit_stands(self):
        self.assertEqual(self.apt(army(1, 1), ("stay", 0, 1)), 1)
        self.assertEqual(self.apt(army(1, 1), ("stay", 1, 2), ("stay", 0, 1)), 1)
        self.assertEqual(self.apt(army(1, 1), ("aid", 1, 2, 3), ("stay", 0, 1)), 1)

    def test_a_stay_where_the_units_move_counts_as_hold(self):
        self.assertEqual(self.apt(army(1, 1), march(1, 1), ("stay", 0, 1)), 1)

    def test_a_stay_where_a_unit_moves(self):
        self.assertEqual(self.apt(army(1, 1), march(1, 2), ("stay", 0, 1)), 0)
        self.assertEqual(self.apt(army(1, 1), march(1, 0), ("stay", 0, 1)), 0)

    def test_a_stay_where_no_unit_is(self):
        self.assertEqual(self.apt(("stay", 0, 1)), 0)
        self.assertEqual(self.apt(army(1, 2), ("stay", 0, 1)), 0)

    def test_an_aid_of_the_move(self):
        self.assertEqual(self.apt(army(1, 1), march(1, 2), ("aid", 0, 1, 2)), 1)
        self.assertEqual(self.apt(army(0, 1), army(0, 2), march(1, 2), ("aid", 0, 1, 2)), 1)

    def test_an_aid_of_another_move(self):
        self.assertEqual(self.apt(army(1, 1), march(1, 3), ("aid", 0, 1, 2)), 0)
        self.assertEqual(self.apt(army(1, 1), army(1, 2), march(2, 3), ("aid", 0, 1, 3)), 0)
        self.assertEqual(self.apt(army(1, 1), army(1, 2), march(2, 1), ("aid", 0, 1, 2)), 0)

    def test_an_aid_of_a_unit_that_stands(self):
        self.assertEqual(self.apt(army(1, 1), ("aid", 0, 1, 2)), 0)
        self.assertEqual(self.apt(army(1, 1), ("stay", 1, 2), ("aid", 0, 1, 2)), 0)
        self.assertEqual(self.apt(army(1, 1), ("aid", 1, 3, 2), ("aid", 0, 1, 2)), 0)

    def test_an_aid_where_no_unit_is(self):
        self.assertEqual(self.apt(("aid", 0, 1, 2)), 0)

    def test_an_aid_of_a_move_by_water(self):
        board = [*provinces(COAST, COAST, COAST), ("land", 0, 2), army(0, 0), army(1, 1), sail(1, 2)]
        self.assertEqual(last(*board, ("aid", 0, 1, 2), ("order", 0)), [0, 0, 0, 0, 3, 1, 2, 0, 1, 0])

    def test_a_support_that_counts_as_hold(self):
        board = [*provinces(INLAND, INLAND, INLAND), ("land", 1, 2), army(0, 0), army(1, 1)]
        self.assertEqual(last(*board, ("stay", 0, 1), ("order", 0)), [0, 0, 0, 0, 0, 0, 0, 0, 0, 0])
        self.assertEqual(last(*board, march(1, 2), ("aid", 0, 1, 2), ("order", 0)), [0, 0, 0, 0, 0, 0, 0, 0, 0, 0])

    def test_other_orders_are_no_supports(self):
        self.assertEqual(self.apt(army(1, 1), ("hold", 0)), 0)
        self.assertEqual(self.apt(army(1, 1), march(0, 1)), 0)
        # Province 0 stands: what a hold's zeros might be taken for.
        self.assertEqual(last(*self.BOARD, army(1, 1), ("order", 1))[8], 0)
        sea = [*provinces(WATER, COAST, COAST), ("unit", 0, FLEET, 0, 0), army(1, 1), sail(1, 2)]
        self.assertEqual(last(*sea, ("carry", 0, 1, 2), ("order", 0)), [0, 0, 1, 0, 4, 1, 2, 0, 0, 0])


if __name__ == "__main__":
    unittest.main()

"""The promises 19 and 20: behind and ways."""

import unittest

from tests.helper import (
    COAST, FLEET, INLAND, WATER, armies, army, ask, coasts, inland, last, march, provinces, sail,
)

LAND = inland(8)


def fleet(power, p, s=0):
    return ("unit", power, FLEET, p, s)


class Behind(unittest.TestCase):
    def behind(self, board, telling, *expected):
        """Each expected pair is a unit's province and where it is behind the telling."""
        numbers = [number for pair in expected for number in pair]
        self.assertEqual(last(*board, ("behind", *telling)), [0, len(expected), *numbers], telling)

    def test_no_units(self):
        self.behind([], ())
        self.behind(LAND, (0, 1))

    def test_where_it_was(self):
        self.behind([*LAND, *armies(0, 1)], (), (0, 0), (1, 1))
        self.behind([*LAND, *armies(0, 1), march(0, 2)], (), (0, 0), (1, 1))

    def test_left(self):
        self.behind([*LAND, *armies(0, 1), march(0, 2)], (0,), (0, 2), (1, 1))

    def test_driven_out(self):
        board = [*LAND, *armies(0, 1), march(0, 1)]
        self.behind(board, (0,), (0, 1), (1, -1))
        self.behind(board, (), (0, 0), (1, 1))

    def test_driven_out_while_it_moves_in_vain(self):
        self.behind([*LAND, *armies(0, 1), march(0, 1), march(1, 2)], (0,), (0, 1), (1, -1))

    def test_not_driven_out_where_it_has_left(self):
        self.behind([*LAND, *armies(0, 1), march(0, 1), march(1, 2)], (0, 1), (0, 1), (1, 2))
        self.behind([*LAND, *armies(0, 1), march(0, 1), march(1, 0)], (0, 1), (0, 1), (1, 0))

    def test_not_driven_out_by_a_move_that_is_not_told(self):
        board = [*LAND, *armies(0, 1, 2), march(0, 1), march(2, 1)]
        self.behind(board, (2,), (0, 0), (1, -1), (2, 1))
        self.behind(board, (), (0, 0), (1, 1), (2, 2))

    def test_by_the_telling_whatever_the_rules_say(self):
        board = [*LAND, *armies(0, 0, 0), march(0, 1), march(2, 1)]
        self.behind(board, (0, 2), (0, 1), (1, -1), (2, 1))
        self.behind([*coasts(3), *armies(0, 1), sail(0, 1)], (0,), (0, 1), (1, -1))

    def test_in_the_order_in_which_they_were_set(self):
        board = [*LAND, army(0, 5), army(0, 2), army(0, 7), march(2, 3)]
        self.behind(board, (2,), (5, 5), (2, 3), (7, 7))

    def test_the_order_after_gone_and_a_new_unit(self):
        board = [*LAND, army(0, 5), army(0, 2), army(0, 7), ("gone", 5)]
        self.behind(board, (), (2, 2), (7, 7))
        self.behind([*board, army(1, 5)], (), (2, 2), (7, 7), (5, 5))
        self.behind([*board, army(1, 0)], (), (2, 2), (7, 7), (0, 0))

    def test_orders_given_later_dont_change_the_order(self):
        board = [*LAND, *armies(0, 1, 2), march(0, 3), ("hold", 0), ("way", 0, 1)]
        self.behind(board, (), (0, 0), (1, 1), (2, 2))

    def test_what_is_told_of_no_move_means_nothing(self):
        board = [*LAND, *armies(0, 1), march(0, 2), ("stay", 1, 0)]
        self.behind(board, (1, 7, 0, 0, 1), (0, 2), (1, 1))

    def test_nothing_is_changed(self):
        told = ask(*LAND, *armies(0, 1), march(0, 1), ("behind", 0), ("order", 1), ("behind",))
        self.assertEqual(told[-2:], [[0, 1, 0, 0, 0, 0, 0, 0, 0, 0], [0, 2, 0, 0, 1, 1]])

    def test_outside(self):
        self.assertEqual(last(*LAND, ("behind", 8)), [-1])
        self.assertEqual(last(*LAND, ("behind", 0, -1)), [-1])


class Ways(unittest.TestCase):
    """Coasts 0 and 1, seas 2, 3 and 4 in a row between them, and a sea 5 from which a fleet may come."""

    SEAS = [
        *provinces(COAST, COAST, WATER, WATER, WATER, WATER),
        ("sea", 0, 1, 2, 0), ("sea", 2, 0, 3, 0), ("sea", 3, 0, 4, 0), ("sea", 4, 0, 1, 2),
        *[("sea", 5, 0, p, 0) for p in (2, 3, 4)], army(0, 0), sail(0, 1),
    ]
    CARRIES = [("carry", p, 0, 1) for p in (2, 3, 4)]
    CHAIN = [*SEAS, *[fleet(0, p) for p in (2, 3, 4)], *CARRIES]

    def ways(self, board, telling, *expected):
        self.assertEqual(last(*board, ("ways", *telling)), [0, len(expected), *expected], telling)

    def test_none(self):
        self.ways([], ())
        self.ways(self.SEAS, ())

    def test_a_chain_of_one(self):
        board = [*provinces(COAST, WATER, COAST), ("sea", 0, 3, 1, 0), army(0, 0), sail(0, 2), fleet(1, 1)]
        self.ways([*board, ("sea", 1, 0, 2, 1)], ())
        self.ways([*board, ("carry", 1, 0, 2)], ())
        self.ways([*board, ("sea", 1, 0, 2, 1), ("carry", 1, 0, 2)], (), 0)
        self.ways([*board, ("sea", 1, 2, 2, 1), ("carry", 1, 0, 2)], ())

    def test_a_chain_of_several(self):
        self.ways(self.CHAIN, (), 0)
        for gap in (2, 3, 4):
            self.ways([*self.CHAIN, ("gone", gap)], ())
            self.ways([*self.CHAIN, ("hold", gap)], ())

    def test_fleets_of_any_power(self):
        board = [*self.SEAS, fleet(1, 4), fleet(2, 2), fleet(0, 3), *self.CARRIES]
        self.ways(board, (), 0)

    def test_backwards_through_the_provinces(self):
        board = [*self.SEAS, army(3, 1), sail(1, 0), *[fleet(0, p) for p in (2, 3, 4)]]
        self.ways([*board, *[("carry", p, 1, 0) for p in (2, 3, 4)]], (), 1)
        self.ways([*board, *self.CARRIES], (), 0)

    def test_broken_by_a_carry_of_other_provinces(self):
        self.ways([*self.CHAIN, ("carry", 3, 1, 0)], ())
        self.ways([*self.CHAIN, ("carry", 2, 0, 5)], ())
        self.ways([*self.CHAIN, ("carry", 4, 5, 1)], ())

    def test_broken_by_a_fleet_that_is_driven_out(self):
        for into in (2, 3, 4):
            board = [*self.CHAIN, fleet(1, 5), ("move", 5, into, 0, 0)]
            self.ways(board, (), 0)
            self.ways(board, (5,))
            self.ways(board, (2, 3, 4), 0)

    def test_another_fleet_driven_out_breaks_nothing(self):
        board = [*self.CHAIN, fleet(1, 5), ("province", WATER), ("sea", 6, 0, 5, 0), fleet(2, 6), ("move", 6, 5, 0, 0)]
        self.ways(board, (6,), 0)

    def test_broken_by_a_place_at_another_shore(self):
        for at in (2, 3, 4):
            board = [*self.SEAS, *[fleet(0, p, int(p == at)) for p in (2, 3, 4)], *self.CARRIES]
            self.ways(board, ())

    def test_two_fleets_are_joined_by_their_places_alone(self):
        # Sea 3 is joined with sea 2 at shore 1, where no fleet is.
        board = [*provinces(COAST, COAST, WATER, WATER), ("sea", 0, 0, 2, 0), ("sea", 1, 0, 3, 0), army(0, 0), sail(0, 1)]
        carried = [*board, fleet(0, 2), fleet(0, 3), ("carry", 2, 0, 1), ("carry", 3, 0, 1)]
        self.ways([*carried, ("sea", 3, 0, 2, 1)], ())
        self.ways([*carried, ("sea", 3, 1, 2, 0)], ())
        self.ways([*carried, ("sea", 3, 0, 2, 0)], (), 0)

    def test_whichever_shore_of_the_coast(self):
        for s in range(4):
            board = [
                *provinces(COAST, WATER, COAST), ("sea", 0, s, 1, 2), ("sea", 2, 3 - s, 1, 2), army(0, 0), sail(0, 2),
                fleet(0, 1, 2), ("carry", 1, 0, 2),
            ]
            self.ways(board, (), 0)

    def test_only_at_one_end(self):
        board = [*self.SEAS, fleet(0, 2), ("carry", 2, 0, 1)]
        self.ways(board, ())
        self.ways([*self.SEAS, fleet(0, 4), ("carry", 4, 0, 1)], ())
        self.ways([*self.SEAS, fleet(0, 2), fleet(0, 4), ("carry", 2, 0, 1), ("carry", 4, 0, 1)], ())

    def test_a_chain_past_a_gap(self):
        # 3 is driven out, and 5 carries beside it.
        board = [*self.CHAIN, fleet(0, 5), ("carry", 5, 0, 1), ("province", WATER), ("sea", 6, 0, 3, 0)]
        self.ways([*board, fleet(1, 6), ("move", 6, 3, 0, 0)], (6,), 0)

    def test_the_order_in_which_the_fleets_were_set_is_nothing(self):
        board = [*self.SEAS, fleet(0, 3), fleet(0, 4), fleet(0, 2), *self.CARRIES]
        self.ways(board, (), 0)

    def test_a_long_chain(self):
        count = 22
        board = [
            *provinces(COAST, COAST, *[WATER] * count), ("sea", 0, 0, 2, 0), ("sea", count + 1, 0, 1, 0),
            *[("sea", p, 0, p + 1, 0) for p in range(2, count + 1)], army(0, 0), sail(0, 1),
            *[fleet(p % 7, p) for p in range(count + 1, 1, -1)], *[("carry", p, 0, 1) for p in range(2, count + 2)],
        ]
        self.ways(board, (), 0)
        self.ways([*board, ("hold", 12)], ())

    def test_several_rising(self):
        board = [
            *provinces(COAST, COAST, COAST, WATER, WATER), *[("sea", p, 0, q, 0) for p in range(3) for q in (3, 4)],
            army(0, 2), army(0, 0), sail(2, 1), sail(0, 1), fleet(0, 3), fleet(0, 4), ("carry", 3, 2, 1),
        ]
        self.ways([*board, ("carry", 4, 0, 1)], (), 0, 2)
        self.ways([*board, ("carry", 4, 2, 1)], (), 2)

    def test_what_was_told_with_call_11_does_not_matter(self):
        self.ways([*self.CHAIN, ("way", 0, 1)], (), 0)
        self.ways([*self.CHAIN, ("way", 0, 0)], (), 0)
        self.ways([*self.SEAS, ("way", 0, 1)], ())

    def test_nothing_is_told_by_it(self):
        self.assertEqual(last(*self.CHAIN, ("ways",), ("counts",))[5], 0)

    def test_only_moves_by_water(self):
        self.ways([*self.CHAIN, ("hold", 0)], ())
        self.ways([*self.CHAIN, ("land", 0, 1), march(0, 1)], ())
        self.ways([*self.CHAIN, ("land", 0, 1)], (), 0)
        self.ways([*self.CHAIN, march(0, 1)], (), 0)

    def test_only_armies_from_a_to_q(self):
        self.ways([*self.CHAIN, ("province", COAST), sail(0, 6)], ())
        self.ways([*self.CHAIN, ("gone", 0)], ())

    def test_the_army_itself_may_be_told_to_go(self):
        self.ways(self.CHAIN, (0,), 0)
        self.ways(self.CHAIN, (0, 0, 2, 5), 0)

    def test_fleets_at_coasts_carry_nothing(self):
        board = [
            *provinces(COAST, COAST, COAST, INLAND), ("sea", 0, 0, 2, 0), ("sea", 2, 0, 1, 0), army(0, 0), sail(0, 1),
            fleet(0, 2), ("carry", 2, 0, 1),
        ]
        self.ways(board, ())

    def test_outside(self):
        self.assertEqual(last(*self.SEAS, ("ways", 6)), [-1])
        self.assertEqual(last(*self.SEAS, ("ways", 0, -1)), [-1])


if __name__ == "__main__":
    unittest.main()

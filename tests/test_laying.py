"""The promises 0 to 5: clear, province, land, sea, unit, gone."""

import unittest

from ordersatonce.table import Table
from tests.helper import ARMY, COAST, FLEET, INLAND, WATER, ask, do, holds, last, pairs, provinces


class Refusals(unittest.TestCase):
    def refused(self, ahead, call, number):
        """The call is refused so behind those ahead of it, and then all is as it was."""
        table = Table()
        for done in ahead:
            self.assertEqual(do(table, *done)[0], 0, done)
        before = holds(table)
        self.assertEqual(do(table, *call), [number], call)
        self.assertEqual(holds(table), before, call)
        self.assertEqual(last(*ahead, call), [number], call)


class Clear(Refusals):
    def test_on_an_empty_table(self):
        self.assertEqual(ask(("clear",), ("clear",)), [[0], [0]])

    def test_provinces_are_counted_anew(self):
        told = ask(*provinces(COAST, INLAND), ("clear",), ("province", WATER), ("province", COAST))
        self.assertEqual(told, [[0, 0], [0, 1], [0], [0, 0], [0, 1]])

    def test_nothing_is_left(self):
        again = [*provinces(COAST, COAST), ("land", 0, 1), ("sea", 0, 0, 1, 0), ("unit", 3, ARMY, 0, 0)]
        expected = [[0, 0], [0, 1], [0], [0], [0]]
        self.assertEqual(ask(*again, ("clear",), *again), expected + [[0]] + expected)

    def test_units_are_gone(self):
        coasts = provinces(COAST, COAST)
        self.assertEqual(last(*coasts, ("unit", 3, ARMY, 1, 0), ("clear",), *coasts, ("gone", 1)), [-5])

    def test_a_full_table_has_room_again(self):
        full = provinces(*[COAST] * 40)
        self.assertEqual(last(*full, ("clear",), *full), [0, 39])
        joined = [("land", p, q) for p, q in pairs(26)][:300]
        few = provinces(*[COAST] * 26)
        table = Table()
        for call in [*few, *joined, ("clear",), *few, *joined]:
            self.assertEqual(do(table, *call)[0], 0, call)

    def test_the_table_is_as_a_new_one(self):
        table = Table()
        for call in [*provinces(COAST, COAST), ("land", 0, 1), ("sea", 0, 0, 1, 0), ("unit", 3, ARMY, 0, 0)]:
            do(table, *call)
        do(table, "clear")
        self.assertEqual(holds(table), holds(Table()))


class Province(Refusals):
    def test_each_kind_and_its_number(self):
        self.assertEqual(ask(*provinces(INLAND, WATER, COAST)), [[0, 0], [0, 1], [0, 2]])

    def test_forty_and_no_more(self):
        told = ask(*provinces(*[INLAND, WATER, COAST, COAST] * 10))
        self.assertEqual(told, [[0, number] for number in range(40)])
        for kind in (INLAND, WATER, COAST):
            self.refused(provinces(*[COAST] * 40), ("province", kind), -2)

    def test_a_refused_one_counts_for_nothing(self):
        self.assertEqual(ask(("province", 3), ("province", COAST)), [[-1], [0, 0]])


class Land(Refusals):
    def test_land_and_coast_are_joined(self):
        board = provinces(INLAND, INLAND, COAST, COAST)
        self.assertEqual(ask(*board, *[("land", p, q) for p, q in pairs(4)])[4:], [[0]] * 6)

    def test_with_itself(self):
        for kind in (INLAND, WATER, COAST):
            self.refused(provinces(INLAND, kind), ("land", 1, 1), -3)

    def test_a_sea(self):
        board = provinces(INLAND, WATER, COAST, WATER)
        for p, q in ((0, 1), (1, 0), (2, 1), (1, 2), (1, 3)):
            self.refused(board, ("land", p, q), -3)

    def test_joined_already_either_way(self):
        for told, again in (((0, 1), (0, 1)), ((0, 1), (1, 0)), ((1, 0), (0, 1)), ((1, 0), (1, 0))):
            self.refused([*provinces(INLAND, COAST), ("land", *told)], ("land", *again), -4)

    def test_a_link_of_sea_is_another(self):
        self.assertEqual(last(*provinces(COAST, COAST), ("sea", 0, 0, 1, 0), ("land", 0, 1)), [0])

    def test_300_and_no_more(self):
        board = [*provinces(*[COAST] * 26), ("province", WATER), *[("land", p, q) for p, q in pairs(26)][:300]]
        self.assertEqual(ask(*board)[-1], [0])
        p, q = pairs(26)[300]
        self.refused(board, ("land", p, q), -2)
        self.refused(board, ("land", q, p), -2)
        self.refused(board, ("land", 0, 1), -4)
        self.refused(board, ("land", 1, 0), -4)
        self.refused(board, ("land", 0, 0), -3)
        self.refused(board, ("land", 0, 26), -3)
        self.refused(board, ("land", 0, 27), -1)
        self.assertEqual(last(*board, ("sea", 0, 0, 1, 0)), [0])


class Sea(Refusals):
    def test_sea_and_coast_are_joined(self):
        board = provinces(WATER, WATER, COAST, COAST)
        self.assertEqual(ask(*board, *[("sea", p, 0, q, 0) for p, q in pairs(4)])[4:], [[0]] * 6)

    def test_with_itself(self):
        for kind in (INLAND, WATER, COAST):
            for t in (0, 1):
                self.refused(provinces(COAST, kind), ("sea", 1, 0, 1, t), -3)

    def test_land(self):
        board = provinces(INLAND, WATER, COAST, INLAND)
        for p, q in ((0, 1), (1, 0), (2, 0), (0, 2), (0, 3)):
            self.refused(board, ("sea", p, 0, q, 0), -3)

    def test_joined_already_either_way(self):
        board = [*provinces(WATER, COAST), ("sea", 0, 1, 1, 2)]
        self.refused(board, ("sea", 0, 1, 1, 2), -4)
        self.refused(board, ("sea", 1, 2, 0, 1), -4)
        board = [*provinces(WATER, COAST), ("sea", 1, 2, 0, 1)]
        self.refused(board, ("sea", 0, 1, 1, 2), -4)
        self.refused(board, ("sea", 1, 2, 0, 1), -4)

    def test_at_other_shores_it_is_another(self):
        shores = [(s, t) for s in range(4) for t in range(4)]
        board = [*provinces(WATER, COAST), *[("sea", 0, s, 1, t) for s, t in shores]]
        self.assertEqual(ask(*board)[2:], [[0]] * 16)
        for s, t in shores:
            self.refused(board, ("sea", 0, s, 1, t), -4)
            self.refused(board, ("sea", 1, t, 0, s), -4)

    def test_the_shores_go_with_their_provinces(self):
        self.assertEqual(last(*provinces(WATER, COAST), ("sea", 0, 1, 1, 2), ("sea", 1, 1, 0, 2)), [0])
        self.assertEqual(last(*provinces(WATER, COAST), ("sea", 0, 1, 1, 2), ("sea", 0, 2, 1, 1)), [0])

    def test_a_link_of_land_is_another(self):
        self.assertEqual(last(*provinces(COAST, COAST), ("land", 0, 1), ("sea", 0, 0, 1, 0)), [0])

    def test_300_and_no_more(self):
        links = [("sea", p, s, q, t) for p, q in pairs(8) for s in range(4) for t in range(4)]
        board = [*provinces(*[COAST] * 8), ("province", INLAND), *links[:300]]
        self.assertEqual(ask(*board)[-1], [0])
        name, p, s, q, t = links[300]
        self.refused(board, ("sea", p, s, q, t), -2)
        self.refused(board, ("sea", q, t, p, s), -2)
        self.refused(board, ("sea", 0, 3, 1, 2), -4)
        self.refused(board, ("sea", 1, 2, 0, 3), -4)
        self.refused(board, ("sea", 1, 2, 1, 3), -3)
        self.refused(board, ("sea", 0, 0, 8, 0), -3)
        self.refused(board, ("sea", 0, 4, 1, 0), -1)
        self.assertEqual(last(*board, ("land", 0, 1)), [0])


class SetUnit(Refusals):
    def test_where_each_may_stand(self):
        for fleet in (ARMY, FLEET):
            for kind in (INLAND, WATER, COAST):
                for s in range(4):
                    may = kind != INLAND if fleet == FLEET else kind != WATER and s == 0
                    call = ("unit", 0, fleet, 0, s)
                    with self.subTest(fleet=fleet, kind=kind, s=s):
                        if may:
                            self.assertEqual(last(("province", kind), call), [0])
                        else:
                            self.refused([("province", kind)], call, -3)

    def test_each_power(self):
        for power in range(7):
            self.assertEqual(last(("province", COAST), ("unit", power, ARMY, 0, 0)), [0])

    def test_a_province_has_at_most_one(self):
        for first in (("unit", 0, ARMY, 0, 0), ("unit", 0, FLEET, 0, 3)):
            board = [("province", COAST), first]
            self.refused(board, ("unit", 0, ARMY, 0, 0), -4)
            self.refused(board, ("unit", 6, FLEET, 0, 0), -4)
            self.refused(board, ("unit", 6, FLEET, 0, 3), -4)

    def test_where_it_may_not_stand_comes_ahead_of_the_unit_there(self):
        self.refused([("province", COAST), ("unit", 0, ARMY, 0, 0)], ("unit", 0, ARMY, 0, 1), -3)
        self.refused([("province", WATER), ("unit", 0, FLEET, 0, 0)], ("unit", 0, ARMY, 0, 0), -3)
        self.refused([("province", INLAND), ("unit", 0, ARMY, 0, 0)], ("unit", 0, FLEET, 0, 0), -3)

    def test_24_and_no_more(self):
        board = [*provinces(*[COAST] * 26), *[("unit", p % 7, p % 2, p, 0) for p in range(24)]]
        self.assertEqual(ask(*board)[-1], [0])
        self.refused(board, ("unit", 0, ARMY, 24, 0), -2)
        self.refused(board, ("unit", 0, FLEET, 25, 2), -2)
        self.refused(board, ("unit", 0, ARMY, 0, 0), -4)
        self.refused(board, ("unit", 0, ARMY, 0, 1), -3)
        self.refused(board, ("unit", 0, ARMY, 24, 1), -3)
        self.refused(board, ("unit", 0, ARMY, 26, 0), -1)
        self.assertEqual(ask(*board, ("gone", 7), ("unit", 0, ARMY, 24, 0), ("unit", 0, ARMY, 7, 0))[-2:], [[0], [-2]])

    def test_it_is_there_as_told_with_the_order_hold(self):
        table = Table()
        for call in [*provinces(COAST, COAST), ("unit", 5, FLEET, 1, 3), ("unit", 2, ARMY, 0, 0)]:
            self.assertEqual(do(table, *call)[0], 0)
        self.assertEqual(holds(table)[3], [
            (1, {"power": 5, "fleet": 1, "shore": 3, "order": (0, 0, 0, 0), "way": 0}),
            (0, {"power": 2, "fleet": 0, "shore": 0, "order": (0, 0, 0, 0), "way": 0}),
        ])


class Gone(Refusals):
    def test_no_unit(self):
        self.refused(provinces(COAST), ("gone", 0), -5)
        self.refused([*provinces(COAST, COAST), ("unit", 0, ARMY, 1, 0)], ("gone", 0), -5)

    def test_it_is_not_there_any_more(self):
        board = [*provinces(COAST, COAST), ("unit", 0, ARMY, 0, 0), ("unit", 0, ARMY, 1, 0), ("gone", 0)]
        for call in (("gone", 0), ("hold", 0), ("move", 0, 1, 0, 0), ("stay", 0, 1)):
            self.refused(board, call, -5)
        self.assertEqual(last(*board, ("gone", 1)), [0])

    def test_a_unit_can_be_set_there_again(self):
        board = [*provinces(COAST), ("unit", 0, ARMY, 0, 0), ("gone", 0), ("unit", 1, FLEET, 0, 2)]
        self.assertEqual(last(*board), [0])
        self.refused(board, ("unit", 1, FLEET, 0, 2), -4)
        self.assertEqual(last(*board, ("gone", 0)), [0])

    def test_order_and_way_go_with_it(self):
        table = Table()
        for call in [*provinces(COAST, COAST), ("unit", 0, ARMY, 0, 0), ("move", 0, 1, 0, 1)]:
            do(table, *call)
        self.assertEqual(do(table, "way", 0, 1), [0])
        self.assertEqual(table.units[0].way, 1)
        self.assertEqual(do(table, "gone", 0), [0])
        self.assertEqual(holds(table)[3], [])
        do(table, "unit", 0, ARMY, 0, 0)
        self.assertEqual((table.units[0].order, table.units[0].way), ((0, 0, 0, 0), 0))

    def test_set_again_it_is_the_last_one_set(self):
        table = Table()
        for call in [*provinces(COAST, COAST), ("unit", 0, ARMY, 0, 0), ("unit", 0, ARMY, 1, 0)]:
            do(table, *call)
        do(table, "gone", 0)
        do(table, "unit", 0, ARMY, 0, 0)
        self.assertEqual([p for p, unit in holds(table)[3]], [1, 0])

    def test_board_and_links_stay(self):
        board = [*provinces(COAST, COAST), ("land", 0, 1), ("sea", 0, 0, 1, 0), ("unit", 0, ARMY, 0, 0), ("gone", 0)]
        self.refused(board, ("land", 1, 0), -4)
        self.refused(board, ("sea", 1, 0, 0, 0), -4)
        self.assertEqual(last(*board, ("province", COAST)), [0, 2])


if __name__ == "__main__":
    unittest.main()

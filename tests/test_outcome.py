"""The promises 16 to 18: most, least and rings."""

import unittest

from ordersatonce.outcome import ring_from
from tests.helper import armies, army, ask, coasts, inland, last, march, sail

LAND = inland(12)
COASTS = coasts(12)


def ring(*provinces):
    """Marches that make a ring of these provinces."""
    return [march(p, q) for p, q in zip(provinces, provinces[1:] + provinces[:1])]


class Outcome(unittest.TestCase):
    def outcome(self, board, most, least, *rings):
        told = ask(*board, ("most",), ("least",), ("rings",))[-3:]
        self.assertEqual(told[0], [0, len(most), *most])
        self.assertEqual(told[1], [0, len(least), *least])
        self.assertEqual(told[2], [0, len(rings)] + [number for row in rings for number in (len(row), *row)])


class TheSame(Outcome):
    def test_nothing(self):
        self.outcome([], (), ())
        self.outcome(LAND, (), ())
        self.outcome([*LAND, *armies(0, 1), ("stay", 0, 1)], (), ())

    def test_into_an_empty_province(self):
        self.outcome([*LAND, army(0, 0), march(0, 1)], (0,), (0,))

    def test_against_a_unit_that_stands(self):
        board = [*LAND, *armies(0, 1, 0), march(0, 1)]
        self.outcome(board, (), ())
        self.outcome([*board, ("aid", 2, 0, 1)], (0,), (0,))

    def test_they_bounce(self):
        self.outcome([*LAND, *armies(0, None, 1), march(0, 1), march(2, 1)], (), ())

    def test_a_line_goes_rising(self):
        board = [*LAND, army(0, 5), army(1, 3), army(2, 9), army(3, 0), march(3, 5), march(9, 3), march(0, 9)]
        self.outcome([*board, march(5, 11)], (0, 3, 5, 9), (0, 3, 5, 9))
        self.outcome(board, (), ())

    def test_a_line_that_stands_at_its_head(self):
        board = [*LAND, *armies(0, 1, 2, 3), march(0, 1), march(1, 2), march(2, 3)]
        self.outcome(board, (), ())
        self.outcome([*board, army(2, 4), ("aid", 4, 2, 3)], (0, 1, 2), (0, 1, 2))

    def test_a_long_line(self):
        board = [*inland(24), *[army(p % 7, p) for p in range(23)], *[march(p, p + 1) for p in range(23)]]
        self.outcome(board, tuple(range(23)), tuple(range(23)))
        self.outcome([*board, army(5, 23)], (), ())

    def test_head_to_head(self):
        board = [*LAND, *armies(0, 1, 0), march(0, 1), march(1, 0)]
        self.outcome(board, (), ())
        self.outcome([*board, ("aid", 2, 0, 1)], (0,), (0,))

    def test_without_its_way(self):
        board = [*COASTS, army(0, 0), sail(0, 1)]
        self.outcome(board, (), ())
        self.outcome([*board, ("way", 0, 1)], (0,), (0,))

    def test_one_driven_out_keeps_none_out_where_its_driver_came_from(self):
        # 1 drives 0 out head to head; 0 would have kept 2 out of 1.
        board = [*LAND, *armies(0, 1, 2, 1), march(0, 1), march(1, 0), ("aid", 3, 1, 0), march(2, 1)]
        self.outcome(board, (1, 2), (1, 2))
        self.outcome([*board, ("hold", 3)], (), ())


class CutByTheMovesWorkedOutFirst(Outcome):
    # 0 moves to 1 with the aid of 2, and so does 3 without; 1 moves into 2 from the aid's q.
    BOARD = [*LAND, *armies(0, 1, 0, 2, 1), march(0, 1), ("aid", 2, 0, 1), march(3, 1), march(1, 2)]

    def test_the_aid_is_not_cut(self):
        self.outcome(self.BOARD, (0,), (0,))

    def test_the_aid_is_cut(self):
        self.outcome([*self.BOARD, ("aid", 4, 1, 2)], (1,), (1,))

    def test_the_aid_that_would_cut_is_cut_itself(self):
        self.outcome([*self.BOARD, ("aid", 4, 1, 2), army(0, 5), march(5, 4)], (0,), (0,))

    def test_a_stay_holds_against_the_one_that_would_cut(self):
        self.outcome([*self.BOARD, ("aid", 4, 1, 2), army(0, 5), ("stay", 5, 2)], (0,), (0,))
        self.outcome([*self.BOARD, ("aid", 4, 1, 2), army(0, 5), ("stay", 5, 2), army(3, 6), march(6, 5)], (1,), (1,))

    def test_a_ring_hangs_on_it(self):
        # 4 aids the ring's move into 0, once its own power has left it, against 5 that comes into 0 as well;
        # 6 comes into 4.
        board = [*LAND, *armies(0, 1, 2, None, 0, 3, 1), *ring(0, 1, 2), ("aid", 4, 2, 0), march(5, 0)]
        self.outcome(board, (0, 1, 2), (), (0, 1, 2))
        self.outcome([*board, march(6, 4)], (), ())


class NotTheSame(Outcome):
    def test_a_ring_of_three(self):
        self.outcome([*LAND, *armies(0, 1, 2), *ring(0, 1, 2)], (0, 1, 2), (), (0, 1, 2))

    def test_a_ring_and_moves_that_go_anyway(self):
        board = [*LAND, *armies(0, 1, 2, 3, 4), *ring(0, 1, 2), march(3, 5), march(4, 3)]
        self.outcome(board, (0, 1, 2, 3, 4), (3, 4), (0, 1, 2))

    def test_a_ring_with_a_helper_goes_anyway(self):
        board = [*LAND, *armies(0, 1, 2, 0), *ring(0, 1, 2), ("aid", 3, 0, 1)]
        self.outcome(board, (0, 1, 2), (0, 1, 2))

    def test_a_ring_with_a_helper_of_the_power_that_it_helps_against(self):
        # Against its own power the helper counts only once that unit has left.
        board = [*LAND, *armies(0, 1, 2, 1), *ring(0, 1, 2), ("aid", 3, 0, 1)]
        self.outcome(board, (0, 1, 2), (), (0, 1, 2))

    def test_a_ring_of_one_power(self):
        self.outcome([*LAND, *armies(0, 0, 0, 0), *ring(0, 1, 2, 3)], (0, 1, 2, 3), (), (0, 1, 2, 3))

    def test_a_broken_ring(self):
        self.outcome([*LAND, *armies(0, 1, 2, 3), *ring(0, 1, 2), march(3, 0)], (), ())
        self.outcome([*LAND, *armies(0, 1, 2), *ring(0, 1, 2), ("hold", 1)], (), ())

    def test_a_ring_without_its_way(self):
        board = [*COASTS, *armies(0, 1, 2), march(0, 1), march(1, 2), sail(2, 0)]
        self.outcome(board, (), ())
        self.outcome([*board, ("way", 2, 1)], (0, 1, 2), (), (0, 1, 2))

    def test_a_rival_without_its_way(self):
        board = [*COASTS, *armies(0, 1, 2, 3), *ring(0, 1, 2), sail(3, 0)]
        self.outcome(board, (0, 1, 2), (), (0, 1, 2))
        self.outcome([*board, ("way", 3, 1)], (), ())


class Rings(Outcome):
    def test_none(self):
        self.assertEqual(last(("rings",)), [0, 0])
        self.assertEqual(last(*LAND, *armies(0, 1), march(0, 2), march(1, 0), ("rings",)), [0, 0])

    def test_told_from_the_least_province_on(self):
        for way in ((0, 1, 2), (1, 2, 0), (2, 0, 1)):
            self.outcome([*LAND, *armies(0, 1, 2), *ring(*way)], (0, 1, 2), (), (0, 1, 2))
        for way in ((0, 2, 1), (2, 1, 0), (1, 0, 2)):
            self.outcome([*LAND, *armies(0, 1, 2), *ring(*way)], (0, 1, 2), (), (0, 2, 1))

    def test_whatever_the_order_in_which_its_own_units_were_set(self):
        board = [*LAND, army(0, 7), army(1, 9), army(2, 4), *ring(9, 4, 7)]
        self.outcome(board, (4, 7, 9), (), (4, 7, 9))

    def test_of_many(self):
        count = 24
        board = [*coasts(count), *[army(p % 7, p) for p in range(count)], *ring(*range(count))]
        self.outcome(board, tuple(range(count)), (), tuple(range(count)))

    def test_several_in_the_order_in_which_the_least_provinces_units_were_set(self):
        rings = [*ring(0, 1, 2), *ring(3, 5, 4), *ring(6, 7, 8, 9)]
        three = ((0, 1, 2), (3, 5, 4), (6, 7, 8, 9))
        everyone = tuple(range(10))
        self.outcome([*LAND, *armies(*[0] * 10), *rings], everyone, (), *three)
        backwards = [army(p % 3, p) for p in reversed(range(10))]
        self.outcome([*LAND, *backwards, *rings], everyone, (), *three[::-1])

    def test_only_the_least_provinces_unit_counts_for_the_order(self):
        order = (4, 5, 1, 0, 3, 2)
        board = [*LAND, *[army(0, p) for p in order], *ring(0, 1, 2), *ring(3, 4, 5)]
        self.outcome(board, (0, 1, 2, 3, 4, 5), (), (0, 1, 2), (3, 4, 5))
        order = (1, 2, 3, 0, 4, 5)
        board = [*LAND, *[army(0, p) for p in order], *ring(0, 1, 2), *ring(3, 4, 5)]
        self.outcome(board, (0, 1, 2, 3, 4, 5), (), (3, 4, 5), (0, 1, 2))

    def test_the_order_after_gone_and_a_new_unit(self):
        board = [*LAND, *armies(*[0] * 6), ("gone", 0), army(0, 0), *ring(0, 1, 2), *ring(3, 4, 5)]
        self.outcome(board, (0, 1, 2, 3, 4, 5), (), (3, 4, 5), (0, 1, 2))
        board = [*LAND, *armies(*[0] * 6), ("gone", 1), army(0, 1), *ring(0, 1, 2), *ring(3, 4, 5)]
        self.outcome(board, (0, 1, 2, 3, 4, 5), (), (0, 1, 2), (3, 4, 5))

    def test_two_that_swap_by_water(self):
        board = [*COASTS, army(0, 6), army(1, 2), ("way", 6, 1), ("way", 2, 1)]
        self.outcome([*board, sail(6, 2), sail(2, 6)], (2, 6), (), (2, 6))
        self.outcome([*board, sail(6, 2), march(2, 6)], (2, 6), (), (2, 6))
        self.outcome([*board, march(6, 2), sail(2, 6)], (2, 6), (), (2, 6))
        self.outcome([*board, march(6, 2), march(2, 6)], (), ())
        self.outcome([*board, sail(6, 2), sail(2, 6), ("way", 6, 0)], (), ())

    def test_a_move_that_leads_into_a_ring_and_is_not_of_it(self):
        # 3 comes into the ring as well, but less strong than the ring's own move once 0 has left.
        board = [*LAND, *armies(0, 1, 2, 3, 0), *ring(0, 1, 2), ("aid", 4, 2, 0), march(3, 0)]
        self.outcome(board, (0, 1, 2), (), (0, 1, 2))
        # 5 would follow it.
        self.outcome([*board, army(5, 5), march(5, 3)], (0, 1, 2), (), (0, 1, 2))

    def test_an_open_move_that_leads_into_a_ring_and_is_not_of_it(self):
        # By the rules two moves into one goal never both go, so this is asked of the walk alone.
        free = {3: 0, 0: 1, 1: 2, 2: 0, 4: 3, 5: 6}
        self.assertEqual([ring_from(free, p) for p in (3, 4, 5)], [[], [], []])
        self.assertEqual([ring_from(free, p) for p in (0, 1, 2)], [[0, 1, 2], [1, 2, 0], [2, 0, 1]])

    def test_a_ring_between_moves_that_go_anyway(self):
        board = [*LAND, *armies(0, 1, 2, 3, 4, 5), *ring(1, 2, 3), march(0, 6), march(4, 0), march(5, 4)]
        self.outcome(board, (0, 1, 2, 3, 4, 5), (0, 4, 5), (1, 2, 3))


if __name__ == "__main__":
    unittest.main()

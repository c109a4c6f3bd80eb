"""The promise 13: strengths. Its numbers are attack, wall, the greatest of the others, keeps, what holds p, goes."""

import unittest

from tests.helper import COAST, INLAND, army, armies, coasts, inland, last, march, provinces, sail

LAND = inland(8)
COASTS = coasts(8)


class Strengths(unittest.TestCase):
    def told(self, board, p, telling, *expected):
        self.assertEqual(last(*board, ("strengths", p, *telling)), [0, *expected], telling)


class Refused(Strengths):
    def test_no_unit(self):
        self.assertEqual(last(*LAND, ("strengths", 0)), [-5])
        self.assertEqual(last(*LAND, army(0, 1), ("strengths", 0, 1)), [-5])
        self.assertEqual(last(*LAND, army(0, 0), ("gone", 0), ("strengths", 0)), [-5])

    def test_outside_comes_ahead_of_no_unit(self):
        self.assertEqual(last(*LAND, ("strengths", 0, 8)), [-1])
        self.assertEqual(last(*LAND, ("strengths", 0, 1, -1)), [-1])
        self.assertEqual(last(*LAND, ("strengths", 0, *[0] * 25)), [-1])
        self.assertEqual(last(*LAND, ("strengths", 0, *[0] * 24)), [-5])


class Stands(Strengths):
    def test_alone(self):
        self.told([*LAND, army(0, 0)], 0, (), 0, 0, 0, 0, 1, 0)

    def test_telling_it_to_go_means_nothing(self):
        self.told([*LAND, army(0, 0)], 0, (0, 1), 0, 0, 0, 0, 1, 0)

    def test_with_stays_of_any_power(self):
        board = [*LAND, *armies(0, 0, 1, 2), ("stay", 1, 0)]
        self.told(board, 0, (), 0, 0, 0, 0, 2, 0)
        self.told([*board, ("stay", 2, 0)], 0, (), 0, 0, 0, 0, 3, 0)
        self.told([*board, ("stay", 2, 0), ("stay", 3, 0)], 0, (), 0, 0, 0, 0, 4, 0)

    def test_stays_of_another_province(self):
        self.told([*LAND, *armies(0, 0, 1), ("stay", 1, 2)], 0, (), 0, 0, 0, 0, 1, 0)

    def test_aids_are_no_stays(self):
        self.told([*LAND, *armies(0, 0, 1), ("aid", 1, 2, 0), march(2, 0)], 0, (), 0, 0, 0, 0, 1, 0)

    def test_a_stay_that_is_cut(self):
        board = [*LAND, *armies(0, 0, 0, 1), ("stay", 1, 0), ("stay", 2, 0), march(3, 1)]
        self.told(board, 0, (), 0, 0, 0, 0, 2, 0)

    def test_it_supports_itself(self):
        board = [*LAND, *armies(0, 0, 1), ("stay", 0, 1), ("stay", 1, 0)]
        self.told(board, 0, (), 0, 0, 0, 0, 2, 0)

    def test_a_move_that_counts_as_hold(self):
        board = [*provinces(INLAND, INLAND), army(0, 0), march(0, 1)]
        self.told(board, 0, (0,), 0, 0, 0, 0, 1, 0)


class GoalEmpty(Strengths):
    def test_alone(self):
        board = [*LAND, army(0, 0), march(0, 1)]
        self.told(board, 0, (), 1, 0, 0, 1, 1, 1)
        self.told(board, 0, (0,), 1, 0, 0, 1, 0, 1)

    def test_with_helpers_of_any_power(self):
        board = [*LAND, *armies(0, None, 0, 1), march(0, 1), ("aid", 2, 0, 1)]
        self.told(board, 0, (), 2, 0, 0, 2, 1, 1)
        self.told([*board, ("aid", 3, 0, 1)], 0, (), 3, 0, 0, 3, 1, 1)

    def test_helpers_of_other_moves(self):
        board = [*LAND, *armies(0, None, 0, 1), march(0, 1), ("aid", 2, 3, 1), ("aid", 3, 0, 4)]
        self.told(board, 0, (), 1, 0, 0, 1, 1, 1)

    def test_stays_mean_nothing_for_one_that_moves(self):
        board = [*LAND, *armies(0, None, 0), march(0, 1), ("stay", 2, 0)]
        self.told(board, 0, (), 1, 0, 0, 1, 1, 1)
        self.told(board, 0, (0,), 1, 0, 0, 1, 0, 1)

    def test_stays_mean_nothing_for_an_empty_goal(self):
        self.told([*LAND, *armies(0, None, 0), march(0, 1), ("stay", 2, 1)], 0, (), 1, 0, 0, 1, 1, 1)


class GoalStands(Strengths):
    def test_alone(self):
        self.told([*LAND, *armies(0, 1), march(0, 1)], 0, (), 1, 1, 0, 1, 1, 0)

    def test_with_a_helper(self):
        self.told([*LAND, *armies(0, 1, 0), march(0, 1), ("aid", 2, 0, 1)], 0, (), 2, 1, 0, 2, 1, 1)
        self.told([*LAND, *armies(0, 1, 2), march(0, 1), ("aid", 2, 0, 1)], 0, (), 2, 1, 0, 2, 1, 1)

    def test_against_a_stay(self):
        board = [*LAND, *armies(0, 1, 0, 1), march(0, 1), ("aid", 2, 0, 1), ("stay", 3, 1)]
        self.told(board, 0, (), 2, 2, 0, 2, 1, 0)

    def test_helpers_of_the_power_of_the_unit_in_the_goal(self):
        board = [*LAND, *armies(0, 1, 1, 0), march(0, 1), ("aid", 2, 0, 1)]
        self.told(board, 0, (), 1, 1, 0, 2, 1, 0)
        self.told([*board, ("aid", 3, 0, 1)], 0, (), 2, 1, 0, 3, 1, 1)

    def test_the_same_power(self):
        board = [*LAND, *armies(0, 0, 1, 2), march(0, 1), ("aid", 2, 0, 1), ("aid", 3, 0, 1)]
        self.told(board, 0, (), 0, 1, 0, 3, 1, 0)

    def test_telling_the_unit_in_the_goal_means_nothing(self):
        self.told([*LAND, *armies(0, 1), march(0, 1)], 0, (1,), 1, 1, 0, 1, 1, 0)
        self.told([*LAND, *armies(0, 0), march(0, 1)], 0, (1,), 0, 1, 0, 1, 1, 0)


class GoalMoves(Strengths):
    def test_not_told_and_told(self):
        board = [*LAND, *armies(0, 1), march(0, 1), march(1, 2)]
        self.told(board, 0, (), 1, 1, 0, 1, 1, 0)
        self.told(board, 0, (1,), 1, 0, 0, 1, 1, 1)

    def test_the_same_power(self):
        board = [*LAND, *armies(0, 0), march(0, 1), march(1, 2)]
        self.told(board, 0, (), 0, 1, 0, 1, 1, 0)
        self.told(board, 0, (1,), 1, 0, 0, 1, 1, 1)

    def test_helpers_of_its_power(self):
        board = [*LAND, *armies(0, 1, None, 1), march(0, 1), march(1, 2), ("aid", 3, 0, 1)]
        self.told(board, 0, (), 1, 1, 0, 2, 1, 0)
        self.told(board, 0, (1,), 2, 0, 0, 2, 1, 1)

    def test_helpers_of_another_power(self):
        board = [*LAND, *armies(0, 1, None, 2), march(0, 1), march(1, 2), ("aid", 3, 0, 1)]
        self.told(board, 0, (), 2, 1, 0, 2, 1, 1)

    def test_stays_mean_nothing_for_the_goal(self):
        board = [*LAND, *armies(0, 1, None, 1), march(0, 1), march(1, 2), ("stay", 3, 1)]
        self.told(board, 0, (), 1, 1, 0, 1, 1, 0)
        self.told(board, 0, (1,), 1, 0, 0, 1, 1, 1)

    def test_its_helpers_mean_nothing_where_they_are_not_head_to_head(self):
        board = [*LAND, *armies(0, 1, None, 1), march(0, 1), march(1, 2), ("aid", 3, 1, 2)]
        self.told(board, 0, (), 1, 1, 0, 1, 1, 0)

    def test_what_holds_a_province_hangs_on_its_own_units_telling(self):
        board = [*LAND, *armies(0, 1), march(0, 1), march(1, 2)]
        self.told(board, 0, (0,), 1, 1, 0, 1, 0, 0)
        self.told(board, 0, (0, 1), 1, 0, 0, 1, 0, 1)


class HeadToHead(Strengths):
    BOARD = [*LAND, *armies(0, 1, 0, 0, 1, 2), march(0, 1), march(1, 0)]

    def test_alone(self):
        self.told(self.BOARD, 0, (), 1, 1, 0, 1, 1, 0)
        self.told(self.BOARD, 1, (), 1, 1, 0, 1, 1, 0)

    def test_the_other_is_told_to_go(self):
        self.told(self.BOARD, 0, (1,), 1, 1, 0, 0, 1, 0)
        self.told(self.BOARD, 1, (1,), 1, 1, 0, 1, 0, 0)
        self.told(self.BOARD, 1, (0,), 1, 1, 0, 0, 1, 0)

    def test_helpers(self):
        board = [*self.BOARD, ("aid", 2, 0, 1)]
        self.told(board, 0, (), 2, 1, 0, 2, 1, 1)
        self.told(board, 1, (), 1, 2, 0, 1, 1, 0)
        self.told(board, 1, (0,), 1, 2, 0, 0, 1, 0)

    def test_helpers_of_both(self):
        board = [*self.BOARD, ("aid", 2, 0, 1), ("aid", 3, 0, 1), ("aid", 4, 1, 0)]
        self.told(board, 0, (), 3, 2, 0, 3, 1, 1)
        self.told(board, 1, (), 2, 3, 0, 2, 1, 0)

    def test_the_walls_helpers_are_of_any_power(self):
        board = [*self.BOARD, ("aid", 2, 1, 0), ("aid", 5, 1, 0)]
        self.told(board, 0, (), 1, 3, 0, 1, 1, 0)
        self.told(board, 1, (), 2, 1, 0, 3, 1, 1)

    def test_helpers_of_the_others_power(self):
        board = [*self.BOARD, ("aid", 4, 0, 1)]
        self.told(board, 0, (), 1, 1, 0, 2, 1, 0)
        self.told(board, 0, (1,), 1, 1, 0, 0, 1, 0)

    def test_the_same_power(self):
        board = [*LAND, *armies(0, 0, 1), march(0, 1), march(1, 0), ("aid", 2, 0, 1)]
        self.told(board, 0, (), 0, 1, 0, 2, 1, 0)
        self.told(board, 0, (1,), 0, 1, 0, 0, 1, 0)

    def test_stays_mean_nothing(self):
        self.told([*self.BOARD, ("stay", 4, 1)], 0, (), 1, 1, 0, 1, 1, 0)

    def test_not_where_one_is_by_water(self):
        board = [*COASTS, *armies(0, 1, 1), ("way", 0, 1), ("way", 1, 1), ("aid", 2, 1, 0)]
        for there, back in ((sail, march), (march, sail), (sail, sail)):
            swap = [*board, there(0, 1), back(1, 0)]
            self.told(swap, 0, (), 1, 1, 0, 1, 1, 0)
            self.told(swap, 0, (1,), 1, 0, 0, 1, 1, 1)
            self.told(swap, 1, (), 2, 1, 0, 2, 1, 1)
            self.told(swap, 1, (0,), 2, 0, 0, 2, 1, 1)

    def test_not_where_the_other_moves_elsewhere(self):
        board = [*LAND, *armies(0, 1, 2), march(0, 1), march(1, 2), march(2, 0)]
        self.told(board, 0, (1,), 1, 0, 0, 1, 1, 1)


class ByWater(Strengths):
    BOARD = [*COASTS, *armies(0, None, 0), sail(0, 1), ("aid", 2, 0, 1)]

    def test_without_a_way(self):
        self.told(self.BOARD, 0, (), 0, 0, 0, 0, 1, 0)
        self.told(self.BOARD, 0, (0,), 0, 0, 0, 0, 0, 0)

    def test_with_a_way(self):
        self.told([*self.BOARD, ("way", 0, 1)], 0, (), 2, 0, 0, 2, 1, 1)
        self.told([*self.BOARD, ("way", 0, 1), ("way", 0, 0)], 0, (), 0, 0, 0, 0, 1, 0)

    def test_a_way_of_another_province(self):
        self.told([*self.BOARD, ("way", 2, 1)], 0, (), 0, 0, 0, 0, 1, 0)

    def test_the_wall_is_there_without_a_way(self):
        self.told([*self.BOARD, army(1, 1)], 0, (), 0, 1, 0, 0, 1, 0)
        self.told([*self.BOARD, army(1, 1), ("way", 0, 1)], 0, (), 2, 1, 0, 2, 1, 1)

    def test_a_move_along_a_link_of_land_needs_no_way(self):
        self.told([*COASTS, army(0, 0), march(0, 1)], 0, (), 1, 0, 0, 1, 1, 1)
        self.told([*COASTS, army(0, 0), march(0, 1), ("way", 0, 1)], 0, (), 1, 0, 0, 1, 1, 1)

    def test_a_move_by_water_for_want_of_a_link(self):
        board = [*provinces(COAST, COAST), army(0, 0), march(0, 1)]
        self.told(board, 0, (), 0, 0, 0, 0, 1, 0)
        self.told([*board, ("way", 0, 1)], 0, (), 1, 0, 0, 1, 1, 1)


class HelpersCut(Strengths):
    BOARD = [*LAND, *armies(0, 1, 0, 1), march(0, 1), ("aid", 2, 0, 1)]

    def test_cut_and_not_cut(self):
        self.told(self.BOARD, 0, (), 2, 1, 0, 2, 1, 1)
        self.told([*self.BOARD, march(3, 2)], 0, (), 1, 1, 0, 1, 1, 0)

    def test_by_its_own_power(self):
        self.told([*self.BOARD, army(0, 4), march(4, 2)], 0, (), 2, 1, 0, 2, 1, 1)

    def test_from_the_aids_q(self):
        board = [*self.BOARD, march(1, 2)]
        self.told(board, 0, (), 2, 1, 0, 2, 1, 1)
        self.told(board, 0, (1,), 1, 0, 0, 1, 1, 1)

    def test_the_walls_helpers(self):
        board = [*LAND, *armies(0, 1, 1, 0), march(0, 1), march(1, 0), ("aid", 2, 1, 0)]
        self.told(board, 0, (), 1, 2, 0, 1, 1, 0)
        self.told([*board, march(3, 2)], 0, (), 1, 1, 0, 1, 1, 0)

    def test_the_others_helpers(self):
        board = [*LAND, *armies(0, None, 1, 1, 0), march(0, 1), march(2, 1), ("aid", 3, 2, 1)]
        self.told(board, 0, (), 1, 0, 2, 1, 1, 0)
        self.told([*board, march(4, 3)], 0, (), 1, 0, 1, 1, 1, 0)


class TheOthers(Strengths):
    def test_none(self):
        self.told([*LAND, *armies(0, None, 1), march(0, 1), march(2, 3)], 0, (), 1, 0, 0, 1, 1, 1)

    def test_one(self):
        self.told([*LAND, *armies(0, None, 1), march(0, 1), march(2, 1)], 0, (), 1, 0, 1, 1, 1, 0)

    def test_of_its_own_power(self):
        self.told([*LAND, *armies(0, None, 0), march(0, 1), march(2, 1)], 0, (), 1, 0, 1, 1, 1, 0)

    def test_it_goes_against_a_lesser_one(self):
        board = [*LAND, *armies(0, None, 1, 0), march(0, 1), march(2, 1), ("aid", 3, 0, 1)]
        self.told(board, 0, (), 2, 0, 1, 2, 1, 1)
        self.told(board, 2, (), 1, 0, 2, 1, 1, 0)

    def test_as_many_are_not_more(self):
        board = [*LAND, *armies(0, None, 1, 0, 1), march(0, 1), march(2, 1), ("aid", 3, 0, 1), ("aid", 4, 2, 1)]
        self.told(board, 0, (), 2, 0, 2, 2, 1, 0)

    def test_the_greatest_of_several(self):
        movers = [*armies(0, None, 1, 2, 3, 2, 2, 1), march(0, 1), march(2, 1), march(3, 1), march(4, 1)]
        helpers = [("aid", 5, 3, 1), ("aid", 6, 3, 1), ("aid", 7, 2, 1)]
        self.told([*LAND, *movers, *helpers], 0, (), 1, 0, 3, 1, 1, 0)
        self.told([*LAND, *movers, *helpers], 3, (), 3, 0, 2, 3, 1, 1)
        self.told([*LAND, *movers, *helpers], 4, (), 1, 0, 3, 1, 1, 0)

    def test_those_told_to_go_keep_others_out_as_well(self):
        board = [*LAND, *armies(0, None, 1), march(0, 1), march(2, 1)]
        self.told(board, 0, (2,), 1, 0, 1, 1, 1, 0)

    def test_the_others_keep_out_with_all_their_helpers(self):
        # The helper in 3 is of the power of the unit in the goal: it counts for what keeps out, not for the attack.
        board = [*LAND, *armies(0, 1, 2, 1, 0), march(0, 1), march(2, 1), ("aid", 3, 2, 1), ("aid", 4, 0, 1)]
        self.told(board, 0, (), 2, 1, 2, 2, 1, 0)
        self.told(board, 2, (), 1, 1, 2, 2, 1, 0)

    def test_one_of_the_goals_own_power_keeps_out(self):
        board = [*LAND, *armies(0, 1, 1, 0), march(0, 1), march(2, 1), ("aid", 3, 0, 1)]
        self.told(board, 2, (), 0, 1, 2, 1, 1, 0)
        self.told(board, 0, (), 2, 1, 1, 2, 1, 1)

    def test_one_without_its_way(self):
        board = [*COASTS, *armies(0, None, 1), march(0, 1), sail(2, 1)]
        self.told(board, 0, (), 1, 0, 0, 1, 1, 1)
        self.told([*board, ("way", 2, 1)], 0, (), 1, 0, 1, 1, 1, 0)

    def test_one_head_to_head_with_the_unit_in_the_goal(self):
        # 2 and 1 meet head to head: if 1 goes, 2 keeps no one out of 1.
        board = [*LAND, *armies(0, 1, 2, 2), march(0, 1), march(1, 2), march(2, 1), ("aid", 3, 2, 1)]
        self.told(board, 0, (), 1, 1, 2, 1, 1, 0)
        self.told(board, 0, (1,), 1, 0, 0, 1, 1, 1)
        self.told(board, 0, (2,), 1, 1, 2, 1, 1, 0)

    def test_it_is_not_its_own_other(self):
        board = [*LAND, *armies(0, None, 0, 0), march(0, 1), ("aid", 2, 0, 1), ("aid", 3, 0, 1)]
        self.told(board, 0, (), 3, 0, 0, 3, 1, 1)


class Telling(Strengths):
    def test_a_province_named_twice_means_nothing_more(self):
        board = [*LAND, *armies(0, 1), march(0, 1), march(1, 2)]
        self.told(board, 0, (1, 1, 1), 1, 0, 0, 1, 1, 1)
        self.told(board, 0, (0, 1, 0), 1, 0, 0, 1, 0, 1)

    def test_provinces_without_a_unit_mean_nothing(self):
        board = [*LAND, *armies(0, 1), march(0, 1), march(1, 2)]
        self.told(board, 0, (2, 3, 7), 1, 1, 0, 1, 1, 0)

    def test_the_last_is_by_the_rules_and_not_by_the_telling(self):
        board = [*LAND, *armies(0, 1), march(0, 1)]
        self.told(board, 0, (0,), 1, 1, 0, 1, 0, 0)
        board = [*LAND, army(0, 0), march(0, 1)]
        self.told(board, 0, (), 1, 0, 0, 1, 1, 1)


if __name__ == "__main__":
    unittest.main()

"""The promise 15: agrees."""

import itertools
import unittest

from tests.helper import armies, coasts, inland, last, march, sail

LAND = inland(8)
COASTS = coasts(8)


class Agrees(unittest.TestCase):
    def agreeing(self, board, *provinces):
        """All the tellings of these provinces that agree."""
        found = []
        for count in range(len(provinces) + 1):
            for telling in itertools.combinations(provinces, count):
                told = last(*board, ("agrees", *telling))
                self.assertEqual((told[0], len(told)), (0, 2))
                self.assertIn(told[1], (0, 1))
                if told[1] == 1:
                    found.append(telling)
        return found

    def test_nothing_moves(self):
        self.assertEqual(last(("agrees",)), [0, 1])
        self.assertEqual(last(*LAND, ("agrees",)), [0, 1])
        self.assertEqual(last(*LAND, *armies(0, 1), ("stay", 0, 1), ("agrees",)), [0, 1])

    def test_a_move_that_goes(self):
        self.assertEqual(self.agreeing([*LAND, *armies(0), march(0, 1)], 0), [(0,)])

    def test_a_move_that_does_not_go(self):
        self.assertEqual(self.agreeing([*LAND, *armies(0, 1), march(0, 1)], 0), [()])

    def test_a_move_without_its_way(self):
        board = [*COASTS, *armies(0), sail(0, 1)]
        self.assertEqual(self.agreeing(board, 0), [()])
        self.assertEqual(self.agreeing([*board, ("way", 0, 1)], 0), [(0,)])

    def test_a_move_too_much_and_a_move_too_few(self):
        # 0 and 2 bounce off one another, 3 goes to 4 and 5 follows it.
        board = [*LAND, *armies(0, None, 1, 2, None, 2), march(0, 1), march(2, 1), march(3, 4), march(5, 3)]
        self.assertEqual(last(*board, ("agrees", 3, 5)), [0, 1])
        self.assertEqual(last(*board, ("agrees", 3, 5, 0)), [0, 0])
        self.assertEqual(last(*board, ("agrees", 3)), [0, 0])
        self.assertEqual(last(*board, ("agrees", 5)), [0, 0])
        self.assertEqual(self.agreeing(board, 0, 2, 3, 5), [(3, 5)])

    def test_a_ring_of_three_agrees_both_ways(self):
        board = [*LAND, *armies(0, 1, 2), march(0, 1), march(1, 2), march(2, 0)]
        self.assertEqual(self.agreeing(board, 0, 1, 2), [(), (0, 1, 2)])

    def test_a_ring_of_one_power_agrees_both_ways(self):
        board = [*LAND, *armies(0, 0, 0), march(0, 1), march(1, 2), march(2, 0)]
        self.assertEqual(self.agreeing(board, 0, 1, 2), [(), (0, 1, 2)])

    def test_head_to_head_none_goes(self):
        self.assertEqual(self.agreeing([*LAND, *armies(0, 1), march(0, 1), march(1, 0)], 0, 1), [()])

    def test_a_swap_by_water_agrees_both_ways(self):
        board = [*COASTS, *armies(0, 1), sail(0, 1), march(1, 0), ("way", 0, 1)]
        self.assertEqual(self.agreeing(board, 0, 1), [(), (0, 1)])

    def test_supports_are_cut_by_the_telling(self):
        # 3 goes into 2 with the aid of 4, and cuts the aid of 2 for the move into its own province 3.
        board = [
            *LAND, *armies(0, 0, 0, 1, 1), march(0, 3), ("aid", 2, 0, 3), march(3, 2), ("aid", 4, 3, 2), march(1, 3),
        ]
        self.assertEqual(self.agreeing(board, 0, 1, 3), [(3,)])
        self.assertEqual(self.agreeing([*board, ("hold", 4)], 0, 1, 3), [(0,)])

    def test_a_line_of_moves(self):
        # 2 goes and 1 follows it; 0 has no way to follow them.
        board = [*COASTS, *armies(0, 1, 1), sail(0, 1), march(1, 2), march(2, 3)]
        self.assertEqual(self.agreeing(board, 0, 1, 2), [(1, 2)])
        self.assertEqual(self.agreeing([*board, ("way", 0, 1)], 0, 1, 2), [(0, 1, 2)])

    def test_what_means_nothing_more(self):
        board = [*LAND, *armies(0, 1, 2), march(0, 3), march(1, 2)]
        self.assertEqual(last(*board, ("agrees", 0)), [0, 1])
        self.assertEqual(last(*board, ("agrees", 0, 0, 0)), [0, 1])
        self.assertEqual(last(*board, ("agrees", 2, 0, 7)), [0, 1])
        self.assertEqual(last(*board, ("agrees", 2, 7)), [0, 0])

    def test_outside(self):
        self.assertEqual(last(("agrees", 0)), [-1])
        self.assertEqual(last(*LAND, ("agrees", 8)), [-1])
        self.assertEqual(last(*LAND, ("agrees", -1, 0)), [-1])


if __name__ == "__main__":
    unittest.main()

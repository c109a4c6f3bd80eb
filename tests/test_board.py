"""The interface: how calls and answers are laid out, and that nothing is changed or kept."""

import unittest

from ordersatonce.board import answers
from tests.helper import COAST, ask, laid_out, provinces


class Untouchable(list):
    """A list that no one may change, not for a while either."""

    def refuse(self, *args, **kwargs):
        raise AssertionError("the list handed in is changed")

    __setitem__ = __delitem__ = __iadd__ = __imul__ = refuse
    append = clear = extend = insert = pop = remove = reverse = sort = refuse


LINE = [
    *provinces(0, 1, 2, 2), ("land", 2, 3), ("land", 3, 2), ("sea", 1, 0, 2, 3), ("unit", 6, 1, 1, 2),
    ("move", 1, 2, 3, 0), ("gone", 0), ("gone", 1), ("clear",), ("gone", 1), ("province", 2),
    ("province", 2), ("unit", 4, 0, 1, 0), ("unit", 5, 0, 0, 0), ("move", 1, 0, 0, 1), ("move", 0, 1, 3, 1),
    ("way", 1, 1), ("order", 1), ("way", 0, 1), ("strengths", 0, 1), ("cuts",), ("cuts", *[0] * 25), ("agrees", 0, 1),
    ("agrees", 1), ("most",), ("least",), ("rings",), ("behind", 1), ("ways", 1), ("counts",), ("strengths", 2),
]
TOLD = [
    2, 0, 0, 2, 0, 1, 2, 0, 2, 2, 0, 3, 1, 0, 1, -4, 1, 0, 1, 0,
    1, 0, 1, -5, 1, 0, 1, 0, 1, -1, 2, 0, 0,
    2, 0, 1, 1, 0, 1, 0, 1, 0, 1, 0,
    1, 0, 10, 0, 4, 0, 0, 1, 0, 0, 1, 0, 1, 1, 0, 7, 0, 1, 0, 0, 1, 1, 1, 2, 0, 0, 1, -1, 2, 0, 1,
    2, 0, 0, 4, 0, 2, 0, 1, 2, 0, 0, 5, 0, 1, 2, 0, 1, 6, 0, 2, 1, 0, 0, -1, 2, 0, 0, 6, 0, 2, 0, 0, 2, 2, 1, -1,
]


class Layout(unittest.TestCase):
    def test_written_out(self):
        calls = [1, 1, 2, 0, 1, 1, 0, 0, 2, 2, 0, 1, 0, 4, 4, 3, 0, 1, 0, 0, 6, 1, 1, 0, 0, 0, 0, 5, 1, 1, 0]
        self.assertEqual(answers(calls), [2, 0, 0, 2, 0, 1, 1, 0, 1, 0, 1, 0, 1, 0, 1, -1])

    def test_each_call_has_its_count_and_its_answers(self):
        self.assertEqual(answers(laid_out(LINE)), TOLD)

    def test_the_answers_are_a_list_of_whole_numbers(self):
        told = answers(laid_out(LINE))
        self.assertIs(type(told), list)
        self.assertEqual({type(number) for number in told}, {int})

    def test_any_call_may_come_first(self):
        self.assertEqual(answers([0, 0, 0]), [1, 0])
        self.assertEqual(answers([1, 1, 2, 0]), [2, 0, 0])
        for place, count in ((2, 2), (3, 4), (4, 4), (5, 1), (6, 1), (7, 4), (8, 2), (9, 3), (10, 3), (11, 2), (12, 1), (13, 1)):
            self.assertEqual(answers([place, count] + [0] * count + [0]), [1, -1], place)
        for place, told in ((14, [0]), (15, [1]), (16, [0]), (17, [0]), (18, [0]), (19, [0]), (20, [0])):
            self.assertEqual(answers([place, 0, 0]), [2, 0, *told], place)
        self.assertEqual(answers([21, 0, 0]), [6, 0, 0, 0, 0, 0, 0])

    def test_a_line_of_400_calls(self):
        told = ask(("province", COAST), ("unit", 0, 0, 0, 0), *[("hold", 0)] * 397, ("gone", 0))
        self.assertEqual(told, [[0, 0]] + [[0]] * 399)

    def test_provinces_behind_are_numbers_like_the_others(self):
        calls = [1, 1, 0, 0, 13, 4, 0, 0, 0, 0, 0, 14, 3, 0, 0, 0, 0, 19, 0, 0, 20, 2, 0, 21, 0, 21, 0, 0]
        self.assertEqual(answers(calls), [2, 0, 0, 1, -5, 2, 0, 0, 2, 0, 0, 1, -1, 6, 0, 1, 0, 0, 0, 0])

    def test_99_provinces_behind(self):
        calls = [1, 1, 0, 0, 14, 99] + [0] * 99 + [0, 13, 99] + [0] * 99 + [0, 21, 0, 0]
        self.assertEqual(answers(calls), [2, 0, 0, 1, -1, 1, -1, 6, 0, 1, 0, 0, 0, 0])

    def test_numbers_of_a_call_are_not_taken_for_calls(self):
        self.assertEqual(answers([1, 1, 1000000000000000000, 0, 2, 2, 0, 0, 0, 0, 0, 0]), [1, -1, 1, -1, 1, 0])


class NothingChangedNothingKept(unittest.TestCase):
    def test_the_list_handed_in_is_the_same_afterwards(self):
        calls = laid_out(LINE)
        before = list(calls)
        answers(calls)
        self.assertEqual(calls, before)

    def test_the_list_handed_in_is_not_changed_for_a_while_either(self):
        self.assertEqual(answers(Untouchable(laid_out(LINE))), TOLD)

    def test_a_second_time_is_as_the_first(self):
        calls = laid_out(LINE[:9])
        first = answers(calls)
        self.assertEqual(first, TOLD[:22])
        self.assertEqual(answers(calls), first)

    def test_the_table_is_empty_at_a_lines_beginning(self):
        ask(*provinces(*[COAST] * 40), ("land", 0, 1), ("unit", 0, 0, 0, 0))
        self.assertEqual(ask(("gone", 0), ("province", COAST), ("gone", 0)), [[-1], [0, 0], [-5]])

    def test_what_was_given_back_is_not_kept(self):
        calls = laid_out(LINE)
        answers(calls).append(7)
        self.assertEqual(answers(calls), TOLD)


if __name__ == "__main__":
    unittest.main()

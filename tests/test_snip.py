"""The call snip: cuts of just the joins at that side."""

import unittest

from asking import BIGGEST, DOWN, LEFT, RIGHT, UP, ask, back, fold, holed, last, punch, sheet, snip, stack, turn


def cut(before, *snips):
    """The numbers that these snips answer, one after another."""
    return [answer[1] for answer in ask(*before, *snips)[len(before):]]


def every_side(before, x, y):
    """How many joins a snip cuts at each side of a place, each tried alone."""
    return [last(*before, snip(x, y, side))[1] for side in (RIGHT, LEFT, UP, DOWN)]


class FlatSnipTest(unittest.TestCase):
    def test_each_side_of_a_square_inside(self):
        self.assertEqual(every_side([sheet(3, 3)], 1, 1), [1, 1, 1, 1])

    def test_the_sheets_own_edges(self):
        self.assertEqual(every_side([sheet(3, 3)], 0, 0), [1, 0, 1, 0])
        self.assertEqual(every_side([sheet(3, 3)], 2, 2), [0, 1, 0, 1])
        self.assertEqual(every_side([sheet(3, 3)], 2, 0), [0, 1, 1, 0])
        self.assertEqual(every_side([sheet(3, 3)], 0, 2), [1, 0, 0, 1])
        self.assertEqual(every_side([sheet(1, 1)], 0, 0), [0, 0, 0, 0])

    def test_a_row_end_is_not_joined_to_the_next_rows_beginning(self):
        self.assertEqual(cut([sheet(2, 2)], snip(1, 0, RIGHT), snip(0, 1, LEFT)), [0, 0])

    def test_a_second_time_nothing_is_cut(self):
        for side in (RIGHT, LEFT, UP, DOWN):
            self.assertEqual(cut([sheet(3, 3)], snip(1, 1, side), snip(1, 1, side)), [1, 0])

    def test_it_is_the_same_join_from_the_other_place(self):
        whole = [sheet(3, 3)]
        self.assertEqual(cut(whole, snip(1, 1, RIGHT), snip(2, 1, LEFT)), [1, 0])
        self.assertEqual(cut(whole, snip(1, 1, LEFT), snip(0, 1, RIGHT)), [1, 0])
        self.assertEqual(cut(whole, snip(1, 1, UP), snip(1, 2, DOWN)), [1, 0])
        self.assertEqual(cut(whole, snip(1, 1, DOWN), snip(1, 0, UP)), [1, 0])

    def test_no_other_join_is_cut(self):
        others = [snip(1, 1, LEFT), snip(1, 1, UP), snip(1, 1, DOWN), snip(2, 1, UP), snip(1, 0, RIGHT)]
        self.assertEqual(cut([sheet(3, 3), snip(1, 1, RIGHT)], *others), [1, 1, 1, 1, 1])

    def test_it_makes_no_hole(self):
        self.assertEqual(holed(sheet(3, 3), punch(2, 2, 1, 1), snip(1, 1, UP)), [8])


class FoldedSnipTest(unittest.TestCase):
    # At x = 0 lie 0, 3, at x = 1 lie 1, 2, each from the bottom up.
    HALVED = [sheet(4, 1), fold(1, 2, 1, 1, 3)]

    def test_where_squares_turn_to_one_another_one_join_is_cut(self):
        self.assertEqual(every_side(self.HALVED, 1, 0), [1, 2, 0, 0])

    def test_where_squares_go_on_each_is_cut(self):
        self.assertEqual(every_side(self.HALVED, 0, 0), [2, 0, 0, 0])

    def test_just_the_joins_there(self):
        self.assertEqual(cut(self.HALVED, snip(0, 0, RIGHT), snip(1, 0, LEFT), snip(1, 0, RIGHT)), [2, 0, 1])
        self.assertEqual(cut(self.HALVED, snip(1, 0, RIGHT), snip(1, 0, RIGHT), snip(0, 0, RIGHT)), [1, 0, 2])

    def test_a_flap_of_one_square(self):
        calls = [sheet(4, 1), fold(1, 3, 1, 1, 3)]
        self.assertEqual(stack(2, 0, *calls), [2, 3])
        # 3's free end lies at the left, where 2 goes on to 1.
        self.assertEqual(every_side(calls, 2, 0), [1, 1, 0, 0])

    def test_turning_and_going_on_at_one_side(self):
        # 3 lies over 1 and 2 and turns to 2 at the left of x = 1, where 1 goes on to 0.
        calls = self.HALVED + [fold(1, 1, 0, 1, 3)]
        self.assertEqual(stack(1, 0, *calls), [1, 2, 3])
        self.assertEqual(every_side(calls, 1, 0), [1, 2, 0, 0])
        self.assertEqual(every_side(calls, 0, 0), [1, 0, 0, 0])
        self.assertEqual(cut(calls, snip(0, 0, RIGHT), snip(1, 0, LEFT), snip(1, 0, RIGHT)), [1, 1, 1])

    def test_quartered(self):
        calls = [sheet(2, 2), fold(1, 1, 1, 1, 1), fold(0, 1, 1, 1, 2)]
        self.assertEqual(every_side(calls, 0, 0), [2, 0, 2, 0])

    def test_folded_low_the_creases_lie_at_the_other_sides(self):
        calls = [sheet(2, 2), fold(1, 1, 0, 1, 0), fold(0, 1, 0, 0, 1)]
        self.assertEqual(every_side(calls, 1, 1), [0, 2, 0, 2])

    def test_bottom_to_top(self):
        calls = [sheet(1, 4), fold(0, 2, 1, 0, 3)]
        self.assertEqual(every_side(calls, 0, 1), [0, 0, 1, 2])
        self.assertEqual(every_side(calls, 0, 0), [0, 0, 2, 0])

    def test_turned_over_left_and_right_are_swapped(self):
        self.assertEqual(every_side(self.HALVED + [turn()], -1, 0), [2, 1, 0, 0])
        self.assertEqual(every_side(self.HALVED + [turn()], 0, 0), [0, 2, 0, 0])
        calls = [sheet(1, 4), fold(0, 2, 1, 0, 3), turn()]
        self.assertEqual(every_side(calls, 0, 1), [0, 0, 1, 2])

    def test_what_was_cut_stays_cut_when_turned_over(self):
        calls = self.HALVED + [snip(1, 0, RIGHT), turn()]
        self.assertEqual(every_side(calls, -1, 0), [2, 0, 0, 0])

    def test_all_layers_are_cut(self):
        calls = [sheet(6, 6), fold(1, 3, 1, 1, 3), fold(0, 3, 1, 1, 18)]
        self.assertEqual(every_side(calls, 1, 1), [4, 4, 4, 4])
        self.assertEqual(every_side(calls, 2, 2), [2, 4, 2, 4])
        self.assertEqual(every_side(calls, 0, 0), [4, 0, 4, 0])

    def test_level_first(self):
        calls = [sheet(6, 6), fold(0, 3, 1, 1, 18), fold(1, 3, 1, 0, 3)]
        self.assertEqual(every_side(calls, 1, 1), [4, 4, 4, 4])
        self.assertEqual(every_side(calls, 2, 2), [2, 4, 2, 4])
        self.assertEqual(every_side(calls, 0, 0), [4, 0, 4, 0])

    def test_squares_that_went_along_twice(self):
        # 5 lies alone past the others and goes on to 4 at the nearer side, as on the flat sheet.
        calls = [sheet(6, 1), fold(1, 3, 1, 1, 3), fold(1, 2, 0, 1, 5)]
        self.assertEqual(ask(*calls)[1:], [[0, 3], [0, 2]])
        self.assertEqual(stack(3, 0, *calls), [5])
        self.assertEqual(every_side(calls, 3, 0), [0, 1, 0, 0])
        calls = [sheet(1, 6), fold(0, 3, 1, 1, 3), fold(0, 2, 0, 1, 5)]
        self.assertEqual(stack(0, 3, *calls), [5])
        self.assertEqual(every_side(calls, 0, 3), [0, 0, 0, 1])


class RefusedSnipTest(unittest.TestCase):
    def test_side_above_three(self):
        for side in (4, 5, BIGGEST):
            self.assertEqual(last(sheet(2, 2), snip(0, 0, side)), [-1])

    def test_nothing_lies_there(self):
        for x, y in ((2, 0), (-1, 0), (0, 2), (0, -1), (100, -100), (-100, 100)):
            for side in (RIGHT, LEFT, UP, DOWN):
                self.assertEqual(last(sheet(2, 2), snip(x, y, side)), [-2])

    def test_the_first_that_is_so_counts(self):
        self.assertEqual(last(sheet(2, 2), snip(9, 9, 4)), [-1])

    def test_a_refusal_changes_nothing(self):
        for call in (snip(0, 0, 4), snip(2, 0, LEFT)):
            self.assertEqual(last(sheet(2, 1), snip(0, 0, UP), call, back()), [0, 0])
            self.assertEqual(last(sheet(2, 1), call, fold(1, 1, 1, 1, 1)), [0, 1])
            self.assertEqual(last(sheet(2, 1), call, snip(1, 0, LEFT)), [0, 1])

    def test_a_snip_without_new_cuts_is_a_snip(self):
        calls = [sheet(1, 1), snip(0, 0, RIGHT), snip(0, 0, RIGHT), back(), back(), back()]
        self.assertEqual(ask(*calls), [[0], [0, 0], [0, 0], [0, 1], [0, 0], [-2]])


if __name__ == "__main__":
    unittest.main()

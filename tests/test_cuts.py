"""The call cuts: which joins are cut, in their order; and so that a snip cuts just the joins at that side."""

import unittest

from asking import DOWN, LEFT, RIGHT, UP, ask, back, cuts, fold, last, punch, row, sheet, snip, turn


def cut_at(*calls):
    """Where in the row of joins those stand that are cut after these calls."""
    return [n for n, cut in enumerate(row(*calls, cuts())) if cut == 1]


class OrderTest(unittest.TestCase):
    def test_a_whole_sheet_of_every_size(self):
        for w in range(1, 7):
            for h in range(1, 7):
                joins = (w - 1) * h + w * (h - 1)
                self.assertEqual(last(sheet(w, h), cuts()), [0, joins] + [0] * joins)

    def test_first_all_to_the_right_then_all_upward(self):
        # Of 3 by 2 squares: 0-1, 1-2, 3-4, 4-5, then 0-3, 1-4, 2-5.
        rightward = [(0, 0), (1, 0), (0, 1), (1, 1)]
        upward = [(0, 0), (1, 0), (2, 0)]
        for n, (x, y) in enumerate(rightward):
            self.assertEqual(cut_at(sheet(3, 2), snip(x, y, RIGHT)), [n])
            self.assertEqual(cut_at(sheet(3, 2), snip(x + 1, y, LEFT)), [n])
        for n, (x, y) in enumerate(upward):
            self.assertEqual(cut_at(sheet(3, 2), snip(x, y, UP)), [4 + n])
            self.assertEqual(cut_at(sheet(3, 2), snip(x, y + 1, DOWN)), [4 + n])

    def test_the_row_itself(self):
        self.assertEqual(last(sheet(3, 2), snip(1, 1, RIGHT), snip(0, 0, UP), cuts()), [0, 7, 0, 0, 0, 1, 1, 0, 0])

    def test_one_square_high(self):
        self.assertEqual(row(sheet(4, 1), snip(1, 0, RIGHT), cuts()), [0, 1, 0])
        self.assertEqual(row(sheet(4, 1), snip(3, 0, LEFT), cuts()), [0, 0, 1])

    def test_one_square_wide(self):
        self.assertEqual(row(sheet(1, 4), snip(0, 1, UP), cuts()), [0, 1, 0])
        self.assertEqual(row(sheet(1, 4), snip(0, 1, DOWN), cuts()), [1, 0, 0])

    def test_one_square_alone_has_no_join(self):
        self.assertEqual(ask(sheet(1, 1), snip(0, 0, UP), cuts()), [[0], [0, 0], [0, 0]])

    def test_the_sheets_own_edges_are_no_joins(self):
        calls = [sheet(2, 2), snip(1, 0, RIGHT), snip(0, 1, LEFT), snip(0, 1, UP), snip(1, 0, DOWN)]
        self.assertEqual(row(*calls, cuts()), [0, 0, 0, 0])

    def test_cuts_come_together(self):
        calls = [sheet(2, 2), snip(0, 0, RIGHT), snip(1, 1, DOWN), snip(0, 0, RIGHT), snip(1, 0, LEFT)]
        self.assertEqual(row(*calls, cuts()), [1, 0, 0, 1])

    def test_before_any_sheet(self):
        self.assertEqual(ask(cuts(), sheet(0, 1), cuts(), sheet(1, 1), cuts()), [[-9], [-1], [-9], [0], [0, 0]])


class FoldedTest(unittest.TestCase):
    def test_where_squares_turn_and_where_they_go_on(self):
        # At x = 0 lie 0, 3, at x = 1 lie 1, 2, each from the bottom up.
        halved = [sheet(4, 1), fold(1, 2, 1, 1, 3)]
        self.assertEqual(row(*halved, snip(1, 0, RIGHT), cuts()), [0, 1, 0])
        self.assertEqual(row(*halved, snip(1, 0, LEFT), cuts()), [1, 0, 1])
        self.assertEqual(row(*halved, snip(0, 0, RIGHT), cuts()), [1, 0, 1])
        for side in (LEFT, UP, DOWN):
            self.assertEqual(row(*halved, snip(0, 0, side), cuts()), [0, 0, 0])

    def test_turning_and_going_on_at_one_side(self):
        # 3 lies over 1 and 2 and turns to 2 at the left of x = 1, where 1 goes on to 0.
        calls = [sheet(4, 1), fold(1, 2, 1, 1, 3), fold(1, 1, 0, 1, 3)]
        self.assertEqual(row(*calls, snip(1, 0, LEFT), cuts()), [1, 0, 1])
        self.assertEqual(row(*calls, snip(0, 0, RIGHT), cuts()), [1, 0, 0])
        self.assertEqual(row(*calls, snip(1, 0, RIGHT), cuts()), [0, 1, 0])

    def test_quartered(self):
        calls = [sheet(2, 2), fold(1, 1, 1, 1, 1), fold(0, 1, 1, 1, 2)]
        self.assertEqual(row(*calls, snip(0, 0, RIGHT), cuts()), [1, 1, 0, 0])
        self.assertEqual(row(*calls, snip(0, 0, UP), cuts()), [0, 0, 1, 1])
        self.assertEqual(row(*calls, snip(0, 0, LEFT), cuts()), [0, 0, 0, 0])
        self.assertEqual(row(*calls, snip(0, 0, DOWN), cuts()), [0, 0, 0, 0])

    def test_a_row_folded_up(self):
        # Squares 0, 1, 2 lie under 3, 4, 5, which turn to them at the side that was down.
        calls = [sheet(3, 3), fold(0, 1, 0, 0, 0)]
        self.assertEqual(cut_at(*calls, snip(1, 1, DOWN)), [7])
        self.assertEqual(cut_at(*calls, snip(1, 1, UP)), [10])
        self.assertEqual(cut_at(*calls, snip(1, 1, RIGHT)), [1, 3])
        self.assertEqual(cut_at(*calls, snip(1, 1, LEFT)), [0, 2])

    def test_turned_over(self):
        calls = [sheet(3, 2), turn()]
        self.assertEqual(cut_at(*calls, snip(0, 0, LEFT)), [0])
        self.assertEqual(cut_at(*calls, snip(0, 0, RIGHT)), [])
        self.assertEqual(cut_at(*calls, snip(-1, 1, LEFT)), [3])
        self.assertEqual(cut_at(*calls, snip(-1, 1, RIGHT)), [2])
        self.assertEqual(cut_at(*calls, snip(-2, 0, UP)), [6])
        self.assertEqual(cut_at(*calls, snip(-2, 1, DOWN)), [6])

    def test_folded_and_turned_over(self):
        calls = [sheet(4, 1), fold(1, 2, 1, 1, 3), turn()]
        self.assertEqual(row(*calls, snip(-1, 0, LEFT), cuts()), [0, 1, 0])
        self.assertEqual(row(*calls, snip(-1, 0, RIGHT), cuts()), [1, 0, 1])
        self.assertEqual(row(*calls, snip(0, 0, LEFT), cuts()), [1, 0, 1])

    def test_folding_and_turning_move_no_cuts(self):
        calls = [sheet(3, 2), snip(0, 0, RIGHT), snip(2, 0, UP)]
        self.assertEqual(cut_at(*calls, turn()), [0, 6])
        self.assertEqual(cut_at(*calls, fold(1, 1, 1, 1, 1)), [0, 6])
        self.assertEqual(cut_at(sheet(3, 2), fold(1, 1, 1, 1, 1), turn()), [])


class ChangedTest(unittest.TestCase):
    def test_gone_back(self):
        calls = [sheet(2, 2), snip(0, 0, RIGHT), snip(0, 0, UP), snip(0, 0, UP)]
        self.assertEqual(row(*calls, cuts()), [1, 0, 1, 0])
        self.assertEqual(row(*calls, back(), cuts()), [1, 0, 1, 0])
        self.assertEqual(row(*calls, back(), back(), cuts()), [1, 0, 0, 0])
        self.assertEqual(row(*calls, back(), back(), back(), cuts()), [0, 0, 0, 0])

    def test_a_refused_snip_cuts_nothing(self):
        for call in (snip(0, 0, 4), snip(2, 0, LEFT), snip(-1, 0, RIGHT)):
            self.assertEqual(row(sheet(2, 2), call, cuts()), [0, 0, 0, 0])

    def test_a_punch_cuts_nothing(self):
        self.assertEqual(row(sheet(2, 2), punch(0, 0, 1, 1), cuts()), [0, 0, 0, 0])

    def test_a_new_sheet_is_whole(self):
        self.assertEqual(row(sheet(2, 1), snip(0, 0, RIGHT), sheet(2, 1), cuts()), [0])

    def test_a_refused_sheet_leaves_the_cuts(self):
        self.assertEqual(row(sheet(2, 1), snip(0, 0, RIGHT), sheet(7, 1), cuts()), [1])

    def test_looking_is_nothing_to_go_back_from(self):
        self.assertEqual(ask(sheet(2, 1), cuts(), cuts(), back()), [[0], [0, 1, 0], [0, 1, 0], [-2]])


if __name__ == "__main__":
    unittest.main()

"""The call pieces: what hangs together has one label."""

import unittest

from asking import DOWN, LEFT, RIGHT, UP, ask, back, fold, last, pieces, punch, row, sheet, snip, turn


class WholeTest(unittest.TestCase):
    def test_a_whole_sheet_of_every_size(self):
        for w in range(1, 7):
            for h in range(1, 7):
                self.assertEqual(last(sheet(w, h), pieces()), [0, w * h] + [0] * (w * h))

    def test_a_sheet_that_is_folded_and_turned(self):
        calls = [sheet(4, 2), fold(1, 2, 1, 1, 3), turn(), fold(0, 1, 1, 0, 4)]
        self.assertEqual(row(*calls, pieces()), [0] * 8)

    def test_holes_part_nothing(self):
        self.assertEqual(row(sheet(3, 1), punch(1, 0, 1, 1), pieces()), [0, 0, 0])

    def test_cuts_that_go_not_all_the_way_part_nothing(self):
        self.assertEqual(row(sheet(2, 2), snip(0, 0, RIGHT), pieces()), [0, 0, 0, 0])

    def test_before_any_sheet(self):
        self.assertEqual(ask(pieces(), sheet(1, 1), pieces()), [[-9], [0], [0, 1, 0]])


class PartedTest(unittest.TestCase):
    def test_two_parts_of_a_strip(self):
        self.assertEqual(row(sheet(4, 1), snip(1, 0, RIGHT), pieces()), [0, 0, 2, 2])
        self.assertEqual(row(sheet(1, 4), snip(0, 3, DOWN), pieces()), [0, 0, 0, 3])

    def test_two_halves(self):
        calls = [sheet(2, 2), snip(0, 0, RIGHT), snip(0, 1, RIGHT)]
        self.assertEqual(row(*calls, pieces()), [0, 1, 0, 1])
        calls = [sheet(2, 2), snip(0, 0, UP), snip(1, 0, UP)]
        self.assertEqual(row(*calls, pieces()), [0, 0, 2, 2])

    def test_single_squares(self):
        calls = [sheet(2, 2), snip(0, 0, RIGHT), snip(0, 0, UP), snip(1, 1, LEFT), snip(1, 1, DOWN)]
        self.assertEqual(row(*calls, pieces()), [0, 1, 2, 3])

    def test_a_row_end_does_not_hang_at_the_next_rows_beginning(self):
        calls = [sheet(3, 2), snip(0, 0, UP), snip(1, 0, UP), snip(2, 0, UP)]
        self.assertEqual(row(*calls, pieces()), [0, 0, 0, 3, 3, 3])

    def test_a_ring_and_what_it_goes_round(self):
        calls = [sheet(3, 3)] + [snip(1, 1, side) for side in (RIGHT, LEFT, UP, DOWN)]
        self.assertEqual(row(*calls, pieces()), [0, 0, 0, 0, 4, 0, 0, 0, 0])
        for n in range(1, 5):
            self.assertEqual(row(*calls[:n], pieces()), [0] * 9)

    def test_a_ring_that_is_opened_hangs_together(self):
        calls = [sheet(3, 3)] + [snip(1, 1, side) for side in (RIGHT, LEFT, UP, DOWN)] + [snip(0, 0, RIGHT)]
        self.assertEqual(row(*calls, pieces()), [0, 0, 0, 0, 4, 0, 0, 0, 0])
        self.assertEqual(row(*calls, snip(2, 1, UP), pieces()), [0, 1, 1, 0, 4, 1, 0, 0, 0])

    def test_a_comb(self):
        comb = [sheet(3, 3), snip(0, 1, RIGHT), snip(1, 1, RIGHT), snip(0, 2, RIGHT), snip(1, 2, RIGHT)]
        self.assertEqual(row(*comb, pieces()), [0] * 9)
        self.assertEqual(row(*comb, snip(1, 0, UP), pieces()), [0, 0, 0, 0, 4, 0, 0, 4, 0])
        self.assertEqual(row(*comb, snip(1, 1, UP), pieces()), [0, 0, 0, 0, 0, 0, 0, 7, 0])

    def test_a_comb_whose_teeth_point_down(self):
        # Its teeth hang together by the uppermost row alone.
        comb = [sheet(3, 3), snip(0, 1, RIGHT), snip(1, 1, RIGHT), snip(0, 0, RIGHT), snip(1, 0, RIGHT)]
        self.assertEqual(row(*comb, pieces()), [0] * 9)
        self.assertEqual(row(*comb, snip(0, 2, DOWN), pieces()), [0, 1, 1, 0, 1, 1, 1, 1, 1])

    def test_a_winding_strip(self):
        # Rows of six that hang together at the right, the left, the right.
        winding = [sheet(6, 4)]
        for y in range(3):
            winding += [snip(x + y % 2, y, UP) for x in range(5)]
        self.assertEqual(row(*winding, pieces()), [0] * 24)
        self.assertEqual(row(*winding, snip(2, 1, RIGHT), pieces()), [0] * 6 + [6] * 3 + [0] * 3 + [6] * 12)


class LabelTest(unittest.TestCase):
    def test_the_lowest_square_is_not_the_first_in_a_row(self):
        calls = [sheet(3, 2), snip(0, 0, RIGHT), snip(0, 0, UP)]
        self.assertEqual(row(*calls, pieces()), [0, 1, 1, 1, 1, 1])
        calls = [sheet(3, 2), snip(1, 0, RIGHT), snip(0, 0, UP), snip(1, 0, UP)]
        self.assertEqual(row(*calls, pieces()), [0, 0, 2, 2, 2, 2])

    def test_two_arms_that_meet_in_a_higher_row(self):
        calls = [sheet(3, 2), snip(1, 0, LEFT), snip(1, 0, RIGHT), snip(1, 0, UP)]
        self.assertEqual(row(*calls, pieces()), [0, 1, 0, 0, 0, 0])

    def test_in_a_staircase(self):
        # 2, 4, 5, 6, 7, 8 are left of 0, 1, 3.
        calls = [sheet(3, 3), snip(1, 0, RIGHT), snip(1, 0, UP), snip(0, 1, RIGHT), snip(0, 1, UP)]
        self.assertEqual(row(*calls, pieces()), [0, 0, 2, 0, 2, 2, 2, 2, 2])


class FoldedTest(unittest.TestCase):
    def test_one_snip_through_the_fold(self):
        halved = [sheet(4, 1), fold(1, 2, 1, 1, 3)]
        self.assertEqual(row(*halved, snip(1, 0, RIGHT), pieces()), [0, 0, 2, 2])
        self.assertEqual(row(*halved, snip(1, 0, LEFT), pieces()), [0, 1, 1, 3])

    def test_four_rings_at_once(self):
        calls = [sheet(6, 6), fold(1, 3, 1, 1, 3), fold(0, 3, 1, 1, 18)]
        calls += [snip(1, 1, side) for side in (RIGHT, LEFT, UP, DOWN)]
        expected = [square if square in (7, 10, 25, 28) else 0 for square in range(36)]
        self.assertEqual(row(*calls, pieces()), expected)

    def test_squares_that_lie_together_do_not_hang_together(self):
        calls = [sheet(2, 1), fold(1, 1, 1, 1, 1), snip(0, 0, RIGHT)]
        self.assertEqual(row(*calls, pieces()), [0, 1])

    def test_turned_over(self):
        calls = [sheet(3, 1), turn(), snip(0, 0, LEFT)]
        self.assertEqual(row(*calls, pieces()), [0, 1, 1])
        self.assertEqual(row(*calls, turn(), pieces()), [0, 1, 1])

    def test_gone_back(self):
        calls = [sheet(3, 1), snip(0, 0, RIGHT), snip(1, 0, RIGHT)]
        self.assertEqual(row(*calls, pieces()), [0, 1, 2])
        self.assertEqual(row(*calls, back(), pieces()), [0, 1, 1])
        self.assertEqual(row(*calls, back(), back(), pieces()), [0, 0, 0])

    def test_looking_is_nothing_to_go_back_from(self):
        self.assertEqual(last(sheet(2, 1), pieces(), back()), [-2])

    def test_a_new_sheet_is_one_piece(self):
        self.assertEqual(row(sheet(2, 1), snip(0, 0, RIGHT), sheet(2, 1), pieces()), [0, 0])


if __name__ == "__main__":
    unittest.main()

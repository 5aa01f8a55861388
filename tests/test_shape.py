"""The calls shape and alike: pieces by how they look, however they are turned."""

import unittest

from asking import (
    BIGGEST, DOWN, LEFT, RIGHT, UP, alike, ask, back, fold, last, pieces, punch, row, shape, sheet, snip, turn)

# Of 6 by 2 squares: 0, 1, 7, 8 and its mirror image 4, 5, 9, 10; also 2, 3 and 6 and 11.
MIRRORED = [
    sheet(6, 2), snip(0, 0, UP), snip(1, 0, RIGHT), snip(0, 1, RIGHT), snip(2, 1, RIGHT), snip(2, 0, UP),
    snip(3, 0, RIGHT), snip(3, 0, UP), snip(5, 0, UP), snip(4, 1, RIGHT)]

# Of 3 by 2 squares: 0, 3 upright, 1, 2 and 4, 5 level.
DOMINOES = [sheet(3, 2), snip(0, 0, RIGHT), snip(0, 1, RIGHT), snip(1, 0, UP), snip(2, 0, UP)]

# Of 3 by 2 squares: 0, 1, 2 and 3, 4, 5.
STRIPS = [sheet(3, 2), snip(0, 0, UP), snip(1, 0, UP), snip(2, 0, UP)]


class ShapeTest(unittest.TestCase):
    def test_a_single_square(self):
        self.assertEqual(last(sheet(1, 1), shape(0)), [0, 3, 0, 0, 0])
        self.assertEqual(last(sheet(1, 1), punch(0, 0, 1, 1), shape(0)), [0, 3, 0, 0, 1])

    def test_a_single_square_is_counted_from_itself(self):
        calls = [sheet(3, 3)] + [snip(1, 1, side) for side in (RIGHT, LEFT, UP, DOWN)]
        self.assertEqual(row(*calls, shape(4)), [0, 0, 0])
        self.assertEqual(row(*calls, punch(1, 1, 1, 1), shape(4)), [0, 0, 1])

    def test_strips_lie_level(self):
        for calls in ([sheet(3, 1)], [sheet(1, 3)]):
            for square in range(3):
                self.assertEqual(row(*calls, shape(square)), [0, 0, 0, 0, 1, 0, 0, 2, 0])

    def test_whole_sheets_lie_as_wide_as_they_can(self):
        for w in range(1, 7):
            for h in range(1, 7):
                wide, low = max(w, h), min(w, h)
                expected = [number for y in range(low) for x in range(wide) for number in (y, x, 0)]
                self.assertEqual(last(sheet(w, h), shape(w * h - 1)), [0, 3 * w * h] + expected)

    def test_three_at_a_corner(self):
        expected = [0, 0, 0, 0, 1, 0, 1, 0, 0]
        for x in (0, 1):
            for y in (0, 1):
                calls = [sheet(2, 2), snip(x, y, LEFT if x else RIGHT), snip(x, y, DOWN if y else UP)]
                alone = 2 * y + x
                for square in range(4):
                    self.assertEqual(row(*calls, shape(square)), [0, 0, 0] if square == alone else expected)

    def test_the_first_number_that_differs_counts(self):
        # Level it begins 0 0, 0 1, upright 0 0, 1 0 or 0 1.
        expected = [0, 0, 0, 0, 1, 0, 1, 1, 0, 1, 2, 0]
        self.assertEqual(row(*MIRRORED, shape(0)), expected)
        self.assertEqual(row(*MIRRORED, shape(4)), expected)

    def test_three_in_a_row_and_a_foot(self):
        # Its foot stands on the row's end, but laid the other way round on its beginning.
        calls = [sheet(3, 2), snip(0, 1, DOWN), snip(1, 1, DOWN), snip(2, 1, LEFT)]
        self.assertEqual(row(*calls, pieces()), [0, 0, 0, 3, 3, 0])
        self.assertEqual(row(*calls, shape(5)), [0, 0, 0, 0, 1, 0, 0, 2, 0, 1, 0, 0])

    def test_a_ring(self):
        calls = [sheet(3, 3)] + [snip(1, 1, side) for side in (RIGHT, LEFT, UP, DOWN)]
        self.assertEqual(row(*calls, shape(8)), [
            0, 0, 0, 0, 1, 0, 0, 2, 0, 1, 0, 0, 1, 2, 0, 2, 0, 0, 2, 1, 0, 2, 2, 0])

    def test_every_square_of_a_piece_tells_the_same(self):
        for square in (4, 5, 9, 10):
            self.assertEqual(row(*MIRRORED, shape(square)), row(*MIRRORED, shape(0)))

    def test_what_is_cut_within_a_piece_does_not_matter(self):
        self.assertEqual(row(sheet(2, 2), snip(0, 0, RIGHT), shape(3)), row(sheet(2, 2), shape(3)))

    def test_there_is_no_such_square(self):
        for square in (6, 7, 36, BIGGEST):
            self.assertEqual(last(sheet(3, 2), shape(square)), [-1])
        self.assertEqual(last(sheet(3, 2), shape(5))[0], 0)
        self.assertEqual(last(sheet(6, 6), shape(36)), [-1])
        self.assertEqual(last(sheet(6, 6), shape(35))[:2], [0, 108])

    def test_before_any_sheet(self):
        self.assertEqual(ask(shape(0), shape(BIGGEST), sheet(1, 1), shape(0)), [[-9], [-9], [0], [0, 3, 0, 0, 0]])


class HolesTest(unittest.TestCase):
    def test_holes_come_as_late_as_they_can(self):
        for x in (0, 1):
            self.assertEqual(row(sheet(2, 1), punch(x, 0, 1, 1), shape(0)), [0, 0, 0, 0, 1, 1])
        for y in (0, 1):
            self.assertEqual(row(sheet(1, 2), punch(0, y, 1, 1), shape(0)), [0, 0, 0, 0, 1, 1])

    def test_in_the_middle(self):
        self.assertEqual(row(sheet(3, 1), punch(1, 0, 1, 1), shape(0)), [0, 0, 0, 0, 1, 1, 0, 2, 0])

    def test_each_corner_of_a_sheet(self):
        expected = [0, 0, 0, 0, 1, 0, 0, 2, 0, 1, 0, 0, 1, 1, 0, 1, 2, 1]
        for x in (0, 2):
            for y in (0, 1):
                self.assertEqual(row(sheet(3, 2), punch(x, y, 1, 1), shape(0)), expected)
                self.assertEqual(row(sheet(2, 3), punch(y, x, 1, 1), shape(0)), expected)

    def test_a_hole_at_an_end_of_three_at_a_corner(self):
        calls = [sheet(2, 2), snip(1, 1, LEFT), snip(1, 1, DOWN)]
        for x, y in ((1, 0), (0, 1)):
            self.assertEqual(row(*calls, punch(x, y, 1, 1), shape(0)), [0, 0, 0, 0, 1, 0, 1, 0, 1])

    def test_a_hole_counts_before_where_the_later_squares_lie(self):
        # Laid like the whole ones the corner comes first: 0 0 1. Another way begins 0 0 0, so it is less.
        calls = [sheet(2, 2), snip(1, 1, LEFT), snip(1, 1, DOWN), punch(0, 0, 1, 1)]
        self.assertEqual(row(*calls, shape(0)), [0, 0, 0, 0, 1, 1, 1, 1, 0])
        # Four in a row and a foot on the last of them, with the hole just there.
        calls = [sheet(4, 2), snip(0, 1, DOWN), snip(1, 1, DOWN), snip(2, 1, DOWN), snip(3, 1, LEFT)]
        self.assertEqual(row(*calls, shape(7)), [0, 0, 0, 0, 1, 0, 0, 2, 0, 0, 3, 0, 1, 0, 0])
        self.assertEqual(row(*calls, punch(3, 0, 1, 1), shape(7)), [0, 0, 0, 0, 1, 0, 0, 2, 0, 0, 3, 1, 1, 3, 0])

    def test_where_an_earlier_square_lies_counts_before_a_hole(self):
        # Three in a row, a hole in the second: 0 0 0, 0 1 1 is less than upright 0 0 0, 1 0 1.
        self.assertEqual(row(sheet(1, 3), punch(0, 1, 1, 1), shape(0)), [0, 0, 0, 0, 1, 1, 0, 2, 0])
        # Holes in both: no way begins with a whole one.
        self.assertEqual(row(*DOMINOES, punch(0, 0, 1, 1), punch(0, 1, 1, 1), shape(0)), [0, 0, 1, 0, 1, 1])

    def test_two_holes(self):
        calls = [sheet(2, 2), punch(0, 0, 1, 1)]
        self.assertEqual(row(*calls, punch(1, 1, 1, 1), shape(0)), [0, 0, 0, 0, 1, 1, 1, 0, 1, 1, 1, 0])
        self.assertEqual(row(*calls, punch(1, 0, 1, 1), shape(0)), [0, 0, 0, 0, 1, 0, 1, 0, 1, 1, 1, 1])
        self.assertEqual(row(*calls, punch(0, 1, 1, 1), shape(0)), [0, 0, 0, 0, 1, 0, 1, 0, 1, 1, 1, 1])

    def test_holes_of_other_pieces_do_not_matter(self):
        self.assertEqual(row(*STRIPS, punch(1, 1, 1, 1), shape(0)), [0, 0, 0, 0, 1, 0, 0, 2, 0])


class PacketTest(unittest.TestCase):
    def test_a_piece_is_told_as_it_lies_on_the_flat_sheet(self):
        calls = [sheet(4, 1), fold(1, 2, 1, 1, 3), snip(0, 0, RIGHT), punch(1, 0, 1, 1), turn()]
        self.assertEqual(row(*calls, pieces()), [0, 1, 1, 3])
        self.assertEqual(row(*calls, shape(1)), [0, 0, 0, 0, 1, 1])
        self.assertEqual(row(*calls, shape(3)), [0, 0, 0])

    def test_gone_back(self):
        calls = [sheet(3, 1), punch(0, 0, 1, 1), snip(1, 0, RIGHT)]
        self.assertEqual(row(*calls, shape(0)), [0, 0, 0, 0, 1, 1])
        self.assertEqual(row(*calls, back(), shape(0)), [0, 0, 0, 0, 1, 0, 0, 2, 1])
        self.assertEqual(row(*calls, back(), back(), shape(0)), [0, 0, 0, 0, 1, 0, 0, 2, 0])

    def test_looking_is_nothing_to_go_back_from(self):
        self.assertEqual(ask(sheet(1, 1), shape(0), alike(0, 0), shape(1), alike(0, 1), back())[1:], [
            [0, 3, 0, 0, 0], [0, 1], [-1], [-1], [-2]])


class AlikeTest(unittest.TestCase):
    def test_the_same_piece(self):
        self.assertEqual(last(sheet(3, 2), alike(0, 5)), [0, 1])
        self.assertEqual(last(sheet(3, 2), alike(4, 4)), [0, 1])
        self.assertEqual(last(sheet(3, 2), punch(0, 0, 1, 1), alike(0, 5)), [0, 1])
        self.assertEqual(last(*MIRRORED, alike(0, 8)), [0, 1])

    def test_mirror_images(self):
        self.assertEqual(last(*MIRRORED, pieces())[2:], [0, 0, 2, 2, 4, 4, 6, 0, 0, 4, 4, 11])
        self.assertEqual(last(*MIRRORED, alike(0, 4)), [0, 1])
        self.assertEqual(last(*MIRRORED, alike(10, 8)), [0, 1])

    def test_quarter_turns(self):
        self.assertEqual(row(*DOMINOES, pieces()), [0, 1, 1, 0, 4, 4])
        self.assertEqual(last(*DOMINOES, alike(0, 1)), [0, 1])
        self.assertEqual(last(*DOMINOES, alike(5, 3)), [0, 1])

    def test_moved(self):
        self.assertEqual(last(*DOMINOES, alike(2, 4)), [0, 1])
        self.assertEqual(last(*MIRRORED, alike(6, 11)), [0, 1])

    def test_other_sizes(self):
        for one, other in ((0, 2), (2, 6), (11, 4), (6, 0)):
            self.assertEqual(last(*MIRRORED, alike(one, other)), [0, 0])
            self.assertEqual(last(*MIRRORED, alike(other, one)), [0, 0])

    def test_the_same_size_in_another_form(self):
        # 0, 1, 2 in a row; 3, 4, 7 at a corner; 5, 6, 8 hang together too.
        calls = [
            sheet(3, 3), snip(0, 0, UP), snip(1, 0, UP), snip(2, 0, UP), snip(1, 1, RIGHT), snip(0, 1, UP),
            snip(1, 2, LEFT), snip(1, 2, RIGHT)]
        self.assertEqual(row(*calls, pieces()), [0, 0, 0, 3, 3, 5, 6, 3, 5])
        self.assertEqual(last(*calls, alike(0, 3)), [0, 0])
        self.assertEqual(last(*calls, alike(5, 6)), [0, 0])

    def test_the_same_but_for_a_hole(self):
        self.assertEqual(last(*DOMINOES, punch(1, 0, 1, 1), alike(1, 4)), [0, 0])
        self.assertEqual(last(*DOMINOES, punch(1, 0, 1, 1), alike(0, 1)), [0, 0])
        self.assertEqual(last(*DOMINOES, punch(1, 0, 1, 1), alike(0, 4)), [0, 1])

    def test_holes_at_other_ends(self):
        self.assertEqual(last(*DOMINOES, punch(1, 0, 1, 1), punch(2, 1, 1, 1), alike(1, 4)), [0, 1])
        self.assertEqual(last(*DOMINOES, punch(0, 1, 1, 1), punch(2, 1, 1, 1), alike(0, 4)), [0, 1])

    def test_holes_at_an_end_and_in_the_middle(self):
        self.assertEqual(last(*STRIPS, punch(1, 0, 1, 1), punch(0, 1, 1, 1), alike(0, 3)), [0, 0])
        self.assertEqual(last(*STRIPS, punch(1, 0, 1, 1), punch(1, 1, 1, 1), alike(0, 3)), [0, 1])
        self.assertEqual(last(*STRIPS, punch(2, 0, 1, 1), punch(0, 1, 1, 1), alike(0, 3)), [0, 1])

    def test_as_many_holes(self):
        one = [punch(0, 0, 1, 1), punch(1, 0, 1, 1)]
        self.assertEqual(last(*STRIPS, *one, punch(2, 1, 1, 1), alike(0, 3)), [0, 0])
        self.assertEqual(last(*STRIPS, *one, punch(2, 1, 1, 1), punch(1, 1, 1, 1), alike(0, 3)), [0, 1])
        self.assertEqual(last(*STRIPS, *one, punch(2, 1, 1, 1), punch(0, 1, 1, 1), alike(0, 3)), [0, 0])

    def test_mirror_images_with_holes(self):
        # Ends to ends and inner squares to inner squares.
        self.assertEqual(last(*MIRRORED, punch(0, 0, 1, 1), punch(5, 0, 1, 1), alike(0, 4)), [0, 1])
        self.assertEqual(last(*MIRRORED, punch(0, 0, 1, 1), punch(3, 1, 1, 1), alike(0, 4)), [0, 1])
        self.assertEqual(last(*MIRRORED, punch(0, 0, 1, 1), punch(4, 0, 1, 1), alike(0, 4)), [0, 0])

    def test_there_is_no_such_square(self):
        for one, other in ((6, 0), (0, 6), (6, 6), (5, BIGGEST), (BIGGEST, 5), (BIGGEST, BIGGEST)):
            self.assertEqual(last(sheet(3, 2), alike(one, other)), [-1])
        self.assertEqual(last(sheet(3, 2), alike(5, 5)), [0, 1])

    def test_before_any_sheet(self):
        self.assertEqual(ask(alike(0, 0), alike(BIGGEST, 0), sheet(1, 1), alike(0, 0)), [[-9], [-9], [0], [0, 1]])

    def test_gone_back(self):
        calls = DOMINOES + [punch(1, 0, 1, 1)]
        self.assertEqual(last(*calls, back(), alike(0, 1)), [0, 1])


if __name__ == "__main__":
    unittest.main()

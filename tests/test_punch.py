"""The call punch: holes in just the layers told."""

import unittest

from asking import BIGGEST, ask, back, fold, holed, last, punch, sheet, snip, stack, turn


class PunchTest(unittest.TestCase):
    # At 0, 0 lie 0, 1, 3, 2 from the bottom up.
    QUARTERED = [sheet(2, 2), fold(1, 1, 1, 1, 1), fold(0, 1, 1, 1, 2)]

    def test_the_packet_is_as_said(self):
        self.assertEqual(stack(0, 0, *self.QUARTERED), [0, 1, 3, 2])

    def test_from_the_top(self):
        for n, squares in ((1, [2]), (2, [2, 3]), (3, [1, 2, 3]), (4, [0, 1, 2, 3])):
            self.assertEqual(last(*self.QUARTERED, punch(0, 0, n, 1)), [0, n])
            self.assertEqual(holed(*self.QUARTERED, punch(0, 0, n, 1)), squares)

    def test_from_the_bottom(self):
        for n, squares in ((1, [0]), (2, [0, 1]), (3, [0, 1, 3]), (4, [0, 1, 2, 3])):
            self.assertEqual(last(*self.QUARTERED, punch(0, 0, n, 0)), [0, n])
            self.assertEqual(holed(*self.QUARTERED, punch(0, 0, n, 0)), squares)

    def test_just_at_that_place(self):
        self.assertEqual(holed(sheet(3, 3), punch(2, 1, 1, 1)), [5])
        self.assertEqual(holed(sheet(3, 3), punch(1, 2, 1, 0)), [7])

    def test_just_new_holes_are_counted(self):
        calls = self.QUARTERED + [punch(0, 0, 2, 1), punch(0, 0, 3, 1), punch(0, 0, 3, 0), punch(0, 0, 4, 1)]
        self.assertEqual(ask(*calls)[3:], [[0, 2], [0, 1], [0, 1], [0, 0]])

    def test_layers_with_holes_count_as_layers(self):
        calls = self.QUARTERED + [punch(0, 0, 1, 1), punch(0, 0, 1, 1)]
        self.assertEqual(ask(*calls)[3:], [[0, 1], [0, 0]])
        self.assertEqual(holed(*calls), [2])

    def test_a_punch_without_new_holes_is_a_punch(self):
        calls = [sheet(1, 1), punch(0, 0, 1, 1), punch(0, 0, 1, 1), back(), back(), back()]
        self.assertEqual(ask(*calls), [[0], [0, 1], [0, 0], [0, 1], [0, 0], [-2]])

    def test_turned_over_the_top_is_what_was_the_bottom(self):
        self.assertEqual(holed(*self.QUARTERED, turn(), punch(0, 0, 1, 1)), [0])
        self.assertEqual(holed(*self.QUARTERED, turn(), punch(0, 0, 1, 0)), [2])
        self.assertEqual(holed(sheet(2, 1), turn(), punch(-1, 0, 1, 1)), [1])

    def test_it_may_be_done_to_what_is_cut(self):
        self.assertEqual(last(sheet(2, 1), snip(0, 0, 0), punch(0, 0, 1, 1)), [0, 1])

    def test_holes_of_several_packets_come_together(self):
        calls = [sheet(4, 1), punch(3, 0, 1, 1), fold(1, 2, 1, 1, 3), punch(1, 0, 1, 1), turn(), punch(0, 0, 1, 1)]
        self.assertEqual(holed(*calls), [0, 2, 3])


class RefusedPunchTest(unittest.TestCase):
    def test_top_above_one(self):
        for top in (2, 3, BIGGEST):
            self.assertEqual(last(sheet(2, 1), punch(0, 0, 1, top)), [-1])

    def test_no_layers(self):
        for top in (0, 1):
            self.assertEqual(last(sheet(2, 1), punch(0, 0, 0, top)), [-2])

    def test_more_layers_than_lie_there(self):
        halved = [sheet(2, 1), fold(1, 1, 1, 1, 1)]
        for top in (0, 1):
            self.assertEqual(last(*halved, punch(0, 0, 2, top)), [0, 2])
            for n in (3, 4, BIGGEST):
                self.assertEqual(last(*halved, punch(0, 0, n, top)), [-2])

    def test_nothing_lies_there(self):
        for x, y in ((1, 0), (-1, 0), (0, 1), (0, -1), (100, 100), (-100, -100)):
            for n in (0, 1, BIGGEST):
                self.assertEqual(last(sheet(1, 1), punch(x, y, n, 1)), [-2])

    def test_nothing_lies_where_squares_have_left(self):
        calls = [sheet(2, 1), fold(1, 1, 1, 1, 1)]
        self.assertEqual(last(*calls, punch(1, 0, 1, 1)), [-2])

    def test_the_first_that_is_so_counts(self):
        self.assertEqual(last(sheet(2, 1), punch(0, 0, 0, 2)), [-1])
        self.assertEqual(last(sheet(2, 1), punch(9, 9, 5, 2)), [-1])

    def test_a_refusal_changes_nothing(self):
        for call in (punch(0, 0, 1, 2), punch(0, 0, 0, 1), punch(0, 0, 2, 0), punch(5, 0, 1, 0)):
            self.assertEqual(holed(sheet(2, 1), punch(1, 0, 1, 1), call), [1])
            self.assertEqual(last(sheet(2, 1), punch(1, 0, 1, 1), call, back()), [0, 0])


if __name__ == "__main__":
    unittest.main()

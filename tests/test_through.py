"""The call through: how many layers of a place have no hole."""

import unittest

from asking import ask, back, fold, holes, last, punch, row, sheet, snip, through, turn

# At 0, 0 lie 0, 1, 3, 2 from the bottom up.
QUARTERED = [sheet(2, 2), fold(1, 1, 1, 1, 1), fold(0, 1, 1, 1, 2)]


class ThroughTest(unittest.TestCase):
    def test_a_flat_sheet(self):
        for x in range(3):
            for y in range(2):
                self.assertEqual(last(sheet(3, 2), through(x, y)), [0, 1])

    def test_all_layers_whole(self):
        self.assertEqual(last(*QUARTERED, through(0, 0)), [0, 4])

    def test_some_layers_with_holes(self):
        for n in range(1, 5):
            for top in (0, 1):
                self.assertEqual(last(*QUARTERED, punch(0, 0, n, top), through(0, 0)), [0, 4 - n])

    def test_from_both_sides(self):
        calls = QUARTERED + [punch(0, 0, 1, 1), punch(0, 0, 2, 0)]
        self.assertEqual(last(*calls, through(0, 0)), [0, 1])
        self.assertEqual(last(*calls, punch(0, 0, 2, 1), through(0, 0)), [0, 0])

    def test_all_layers_with_holes(self):
        self.assertEqual(last(sheet(1, 1), punch(0, 0, 1, 1), through(0, 0)), [0, 0])
        self.assertEqual(last(*QUARTERED, punch(0, 0, 4, 0), through(0, 0)), [0, 0])

    def test_just_at_that_place(self):
        calls = [sheet(3, 2), punch(1, 1, 1, 1)]
        self.assertEqual([last(*calls, through(x, y))[1] for y in (0, 1) for x in (0, 1, 2)], [1, 1, 1, 1, 0, 1])

    def test_holes_go_with_their_squares_when_folded(self):
        # 3 has the hole; it comes to lie at x = 0, then at x = 1.
        halved = [sheet(4, 1), punch(3, 0, 1, 1), fold(1, 2, 1, 1, 3)]
        self.assertEqual([last(*halved, through(x, 0)) for x in (0, 1, 2, 3)], [[0, 1], [0, 2], [-2], [-2]])
        again = halved + [fold(1, 1, 0, 1, 3)]
        self.assertEqual([last(*again, through(x, 0)) for x in (0, 1)], [[0, 1], [0, 2]])
        self.assertEqual(row(*again, holes()), [0, 0, 0, 1])

    def test_holes_go_with_their_squares_when_turned_over(self):
        calls = [sheet(3, 1), punch(2, 0, 1, 1), turn()]
        self.assertEqual([last(*calls, through(x, 0)) for x in (-2, -1, 0, 1, 2)], [[0, 0], [0, 1], [0, 1], [-2], [-2]])

    def test_cuts_make_no_hole_and_move_nothing(self):
        self.assertEqual(last(*QUARTERED, snip(0, 0, 0), snip(0, 0, 2), through(0, 0)), [0, 4])

    def test_all_thirty_six(self):
        calls = [sheet(6, 6)]
        for k in (5, 4, 3, 2, 1):
            calls += [fold(1, k, 1, 1, k), fold(0, k, 1, 1, 6 * k)]
        self.assertEqual({answer[0] for answer in ask(*calls)}, {0})
        self.assertEqual(last(*calls, through(0, 0)), [0, 36])
        self.assertEqual(last(*calls, punch(0, 0, 35, 1), through(0, 0)), [0, 1])
        self.assertEqual(last(*calls, punch(0, 0, 36, 1), through(0, 0)), [0, 0])


class RefusedThroughTest(unittest.TestCase):
    def test_nothing_lies_there(self):
        for x, y in ((2, 0), (-1, 0), (0, 2), (0, -1), (100, 100), (-100, -100), (100, -100), (-100, 100)):
            self.assertEqual(last(sheet(2, 2), through(x, y)), [-2])

    def test_nothing_lies_where_squares_have_left(self):
        self.assertEqual(last(*QUARTERED, through(1, 0)), [-2])
        self.assertEqual(last(*QUARTERED, through(0, 1)), [-2])
        self.assertEqual(last(sheet(2, 1), turn(), through(1, 0)), [-2])

    def test_before_any_sheet(self):
        self.assertEqual(ask(through(0, 0), through(100, -100), sheet(1, 1), through(0, 0)), [
            [-9], [-9], [0], [0, 1]])

    def test_gone_back(self):
        calls = QUARTERED + [punch(0, 0, 3, 1)]
        self.assertEqual(last(*calls, back(), through(0, 0)), [0, 4])
        self.assertEqual(last(*calls, back(), back(), through(0, 0)), [0, 2])
        self.assertEqual(last(*calls, back(), back(), back(), through(0, 0)), [0, 1])

    def test_looking_is_nothing_to_go_back_from(self):
        self.assertEqual(ask(sheet(1, 1), through(0, 0), through(1, 0), back()), [[0], [0, 1], [-2], [-2]])


if __name__ == "__main__":
    unittest.main()

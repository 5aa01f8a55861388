"""The calls fold and turn: what goes along, where it lies then and in which layers."""

import unittest

from asking import BIGGEST, ask, back, fold, holed, last, punch, sheet, snip, stacks, turn


class UprightFoldTest(unittest.TestCase):
    def test_high_over(self):
        calls = [sheet(3, 1), fold(1, 2, 1, 1, 2)]
        self.assertEqual(last(*calls), [0, 1])
        self.assertEqual(stacks(*calls), {(0, 0): [0], (1, 0): [1, 2]})

    def test_high_under(self):
        calls = [sheet(3, 1), fold(1, 2, 1, 0, 2)]
        self.assertEqual(last(*calls), [0, 1])
        self.assertEqual(stacks(*calls), {(0, 0): [0], (1, 0): [2, 1]})

    def test_low_over(self):
        calls = [sheet(3, 1), fold(1, 1, 0, 1, 0)]
        self.assertEqual(last(*calls), [0, 1])
        self.assertEqual(stacks(*calls), {(1, 0): [1, 0], (2, 0): [2]})

    def test_low_under(self):
        calls = [sheet(3, 1), fold(1, 1, 0, 0, 0)]
        self.assertEqual(last(*calls), [0, 1])
        self.assertEqual(stacks(*calls), {(1, 0): [0, 1], (2, 0): [2]})

    def test_what_reaches_past_the_rest_lies_there_alone(self):
        calls = [sheet(4, 1), fold(1, 1, 1, 1, 3)]
        self.assertEqual(last(*calls), [0, 3])
        self.assertEqual(stacks(*calls), {(-2, 0): [3], (-1, 0): [2], (0, 0): [0, 1]})

    def test_all_rows_go_along(self):
        calls = [sheet(3, 2), fold(1, 2, 1, 1, 2)]
        self.assertEqual(last(*calls), [0, 2])
        self.assertEqual(stacks(*calls), {(0, 0): [0], (1, 0): [1, 2], (0, 1): [3], (1, 1): [4, 5]})


class LevelFoldTest(unittest.TestCase):
    def test_high_over(self):
        calls = [sheet(1, 3), fold(0, 2, 1, 1, 2)]
        self.assertEqual(last(*calls), [0, 1])
        self.assertEqual(stacks(*calls), {(0, 0): [0], (0, 1): [1, 2]})

    def test_high_under(self):
        calls = [sheet(1, 3), fold(0, 2, 1, 0, 2)]
        self.assertEqual(last(*calls), [0, 1])
        self.assertEqual(stacks(*calls), {(0, 0): [0], (0, 1): [2, 1]})

    def test_low_over(self):
        calls = [sheet(2, 3), fold(0, 1, 0, 1, 1)]
        self.assertEqual(last(*calls), [0, 2])
        self.assertEqual(stacks(*calls), {(0, 1): [2, 0], (1, 1): [3, 1], (0, 2): [4], (1, 2): [5]})

    def test_low_under(self):
        calls = [sheet(1, 4), fold(0, 3, 0, 0, 1)]
        self.assertEqual(last(*calls), [0, 3])
        self.assertEqual(stacks(*calls), {(0, 3): [2, 3], (0, 4): [1], (0, 5): [0]})


class FoldedAgainTest(unittest.TestCase):
    # After it: 0 and 3 at x = 0, 1 and 2 at x = 1, each from the bottom up.
    HALVED = [sheet(4, 1), fold(1, 2, 1, 1, 2)]

    def test_halved(self):
        self.assertEqual(last(*self.HALVED), [0, 2])
        self.assertEqual(stacks(*self.HALVED), {(0, 0): [0, 3], (1, 0): [1, 2]})

    def test_over_takes_the_higher_layers_along(self):
        calls = self.HALVED + [fold(1, 1, 0, 1, 0)]
        self.assertEqual(last(*calls), [0, 2])
        self.assertEqual(stacks(*calls), {(1, 0): [1, 2, 3, 0]})

    def test_over_leaves_the_lower_layers(self):
        calls = self.HALVED + [fold(1, 1, 0, 1, 3)]
        self.assertEqual(last(*calls), [0, 1])
        self.assertEqual(stacks(*calls), {(0, 0): [0], (1, 0): [1, 2, 3]})

    def test_under_takes_the_lower_layers_along(self):
        calls = self.HALVED + [fold(1, 1, 0, 0, 3)]
        self.assertEqual(last(*calls), [0, 2])
        self.assertEqual(stacks(*calls), {(1, 0): [3, 0, 1, 2]})

    def test_under_leaves_the_higher_layers(self):
        calls = self.HALVED + [fold(1, 1, 0, 0, 0)]
        self.assertEqual(last(*calls), [0, 1])
        self.assertEqual(stacks(*calls), {(0, 0): [3], (1, 0): [0, 1, 2]})

    def test_what_is_joined_on_that_side_goes_along_whatever_its_layer(self):
        calls = [sheet(2, 2), fold(1, 1, 1, 1, 1), fold(0, 1, 1, 1, 3)]
        self.assertEqual(ask(*calls), [[0], [0, 2], [0, 2]])
        self.assertEqual(stacks(*calls), {(0, 0): [0, 1, 3, 2]})

    def test_a_flap_and_what_it_is_joined_to_pull_one_another(self):
        # The flap 4, 5 lies over 3 and 2; 4 is over 3 and joined to it, 5 stays behind with 2.
        calls = [sheet(6, 1), fold(1, 4, 1, 1, 5), fold(1, 3, 1, 1, 3)]
        self.assertEqual(ask(*calls), [[0], [0, 2], [0, 2]])
        self.assertEqual(stacks(*calls), {(0, 0): [0], (1, 0): [1], (2, 0): [2, 5, 4, 3]})
        calls = [sheet(6, 1), fold(1, 4, 1, 1, 5), fold(1, 3, 1, 1, 4)]
        self.assertEqual(stacks(*calls), {(0, 0): [0], (1, 0): [1], (2, 0): [2, 5, 4, 3]})

    def test_no_fold_opens_a_crease_at_the_packets_edge(self):
        # 1 lies on the folded side too and is beside 2, so all would go along.
        self.assertEqual(last(*self.HALVED, fold(1, 2, 0, 1, 2)), [-3])

    def test_a_whole_column_of_layers_is_laid_over(self):
        calls = self.HALVED + [fold(1, 1, 0, 1, 3), fold(1, 1, 1, 1, 2)]
        self.assertEqual(last(*calls), [0, 3])
        self.assertEqual(stacks(*calls), {(0, 0): [0, 3, 2, 1]})

    def test_level_after_upright(self):
        calls = [sheet(2, 3), fold(1, 1, 0, 0, 0), fold(0, 1, 0, 1, 1)]
        # First 0, 2, 4 come beneath 1, 3, 5; then the lowest row, 1 lying over 0, is laid over the next.
        self.assertEqual(ask(*calls), [[0], [0, 3], [0, 2]])
        self.assertEqual(stacks(*calls), {(1, 1): [2, 3, 1, 0], (1, 2): [4, 5]})


class RefusedFoldTest(unittest.TestCase):
    def test_flags_above_one(self):
        for wrong in (2, 3, BIGGEST):
            self.assertEqual(last(sheet(3, 1), fold(wrong, 2, 1, 1, 2)), [-1])
            self.assertEqual(last(sheet(3, 1), fold(1, 2, wrong, 1, 2)), [-1])
            self.assertEqual(last(sheet(3, 1), fold(1, 2, 1, wrong, 2)), [-1])

    def test_no_such_square(self):
        for square in (3, 4, 36, BIGGEST):
            self.assertEqual(last(sheet(3, 1), fold(1, 2, 1, 1, square)), [-2])

    def test_a_square_on_the_other_side(self):
        self.assertEqual(last(sheet(3, 1), fold(1, 2, 1, 1, 1)), [-2])
        self.assertEqual(last(sheet(3, 1), fold(1, 2, 0, 1, 2)), [-2])
        self.assertEqual(last(sheet(1, 3), fold(0, 1, 1, 0, 0)), [-2])
        self.assertEqual(last(sheet(1, 3), fold(0, 1, 0, 0, 1)), [-2])

    def test_lines_at_and_beyond_the_edges(self):
        for w, h, up in ((3, 1, 1), (1, 3, 0)):
            for square in range(3):
                for over in (0, 1):
                    for k in (0, -1, -100):
                        self.assertEqual(last(sheet(w, h), fold(up, k, 1, over, square)), [-3])
                        self.assertEqual(last(sheet(w, h), fold(up, k, 0, over, square)), [-2])
                    for k in (3, 4, 100):
                        self.assertEqual(last(sheet(w, h), fold(up, k, 0, over, square)), [-3])
                        self.assertEqual(last(sheet(w, h), fold(up, k, 1, over, square)), [-2])

    def test_a_single_square_is_never_folded(self):
        self.assertEqual(last(sheet(1, 1), fold(1, 0, 1, 1, 0)), [-3])
        self.assertEqual(last(sheet(1, 1), fold(1, 1, 1, 1, 0)), [-2])

    def test_something_is_cut(self):
        calls = [sheet(3, 1), snip(0, 0, 0)]
        self.assertEqual(last(*calls, fold(1, 2, 1, 1, 2)), [-4])
        self.assertEqual(ask(*calls, back(), fold(1, 2, 1, 1, 2))[2:], [[0, 0], [0, 1]])

    def test_a_snip_that_cuts_nothing_hinders_no_fold(self):
        self.assertEqual(ask(sheet(3, 1), snip(0, 0, 1), fold(1, 2, 1, 1, 2)), [[0], [0, 0], [0, 1]])

    def test_the_first_that_is_so_counts(self):
        cut = [sheet(3, 1), snip(0, 0, 0)]
        self.assertEqual(last(*cut, fold(2, 2, 1, 1, 9)), [-1])
        self.assertEqual(last(*cut, fold(1, 0, 1, 2, 0)), [-1])
        self.assertEqual(last(*cut, fold(1, 2, 2, 1, 2)), [-1])
        self.assertEqual(last(*cut, fold(1, 2, 1, 1, 9)), [-2])
        self.assertEqual(last(*cut, fold(1, 0, 1, 1, 3)), [-2])
        self.assertEqual(last(*cut, fold(1, 0, 1, 1, 0)), [-3])

    def test_a_refusal_changes_nothing(self):
        before = [sheet(3, 1), fold(1, 2, 1, 1, 2)]
        for call, number in ((fold(2, 1, 0, 1, 0), -1), (fold(1, 1, 0, 1, 1), -2), (fold(1, 0, 1, 1, 0), -3)):
            self.assertEqual(last(*before, call), [number])
            self.assertEqual(stacks(*before, call), stacks(*before))
            self.assertEqual(last(*before, call, back()), [0, 0])


class TurnTest(unittest.TestCase):
    def test_places_are_seen_from_behind(self):
        calls = [sheet(3, 2), turn()]
        self.assertEqual(last(*calls), [0])
        self.assertEqual(stacks(*calls), {
            (0, 0): [0], (-1, 0): [1], (-2, 0): [2],
            (0, 1): [3], (-1, 1): [4], (-2, 1): [5]})

    def test_layers_lie_the_other_way_round(self):
        calls = [sheet(4, 1), fold(1, 2, 1, 1, 2), fold(1, 1, 0, 1, 3), turn()]
        self.assertEqual(stacks(*calls), {(0, 0): [0], (-1, 0): [3, 2, 1]})

    def test_twice_is_as_before(self):
        calls = [sheet(3, 2), fold(1, 1, 1, 0, 1), fold(0, 1, 0, 1, 0)]
        self.assertEqual(stacks(*calls, turn(), turn()), stacks(*calls))

    def test_folded_over_after_it_lies_where_folded_under_would(self):
        # At x = 0, -1, -2 lie 0, 1, 2; the low side below -1 is 2 alone.
        calls = [sheet(3, 1), turn(), fold(1, -1, 0, 1, 2)]
        self.assertEqual(last(*calls), [0, 1])
        self.assertEqual(stacks(*calls), {(0, 0): [0], (-1, 0): [1, 2]})
        self.assertEqual(stacks(*calls, turn()), stacks(sheet(3, 1), fold(1, 2, 1, 0, 2)))

    def test_folds_of_a_packet_that_was_folded_and_turned_over(self):
        turned = [sheet(4, 1), fold(1, 2, 1, 1, 2), turn()]
        self.assertEqual(stacks(*turned), {(0, 0): [3, 0], (-1, 0): [2, 1]})
        calls = turned + [fold(1, 0, 1, 1, 0)]
        self.assertEqual(last(*calls), [0, 1])
        self.assertEqual(stacks(*calls), {(0, 0): [3], (-1, 0): [2, 1, 0]})
        calls = turned + [fold(1, 0, 1, 0, 0)]
        self.assertEqual(last(*calls), [0, 2])
        self.assertEqual(stacks(*calls), {(-1, 0): [0, 3, 2, 1]})

    def test_level_folds_of_a_turned_packet(self):
        turned = [sheet(2, 3), fold(1, 1, 1, 1, 1), turn()]
        calls = turned + [fold(0, 2, 1, 0, 5)]
        self.assertEqual(last(*calls), [0, 2])
        self.assertEqual(stacks(*calls), {(0, 0): [1, 0], (0, 1): [4, 5, 3, 2]})

    def test_it_may_be_done_to_what_is_cut(self):
        self.assertEqual(ask(sheet(2, 1), snip(0, 0, 0), turn(), back()), [[0], [0, 1], [0], [0, 1]])


class HolesStayTest(unittest.TestCase):
    def test_folding_and_turning_move_no_hole(self):
        calls = [sheet(4, 2), fold(1, 2, 1, 1, 3), punch(1, 0, 1, 1), punch(0, 1, 1, 0)]
        self.assertEqual(holed(*calls), [2, 4])
        for move in (turn(), fold(1, 1, 0, 1, 0), fold(1, 1, 1, 0, 2), fold(0, 1, 1, 0, 7)):
            self.assertEqual(last(*calls, move)[0], 0)
            self.assertEqual(holed(*calls, move), [2, 4])
            self.assertEqual(holed(*calls, move, turn(), back(), back()), [2, 4])


if __name__ == "__main__":
    unittest.main()

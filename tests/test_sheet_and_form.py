"""The call sheet, the call holes, and how calls and answers stand in their lists."""

import unittest

from asking import (
    BIGGEST, aim, alike, ask, back, cuts, fold, holed, holes, joined, last, pieces, punch, shape, sheet, snip, stacks,
    through, turn)
from punchfold.sheet import answers


class SheetTest(unittest.TestCase):
    def test_every_size_lies_flat_without_holes(self):
        for w in range(1, 7):
            for h in range(1, 7):
                self.assertEqual(ask(sheet(w, h), holes()), [[0], [0, w * h] + [0] * (w * h)])

    def test_squares_are_numbered_by_rows_from_below(self):
        self.assertEqual(stacks(sheet(3, 2)), {
            (0, 0): [0], (1, 0): [1], (2, 0): [2],
            (0, 1): [3], (1, 1): [4], (2, 1): [5]})

    def test_sizes_that_are_refused(self):
        for wrong in (0, 7, 8, 100, BIGGEST):
            for right in (1, 6):
                self.assertEqual(ask(sheet(wrong, right)), [[-1]])
                self.assertEqual(ask(sheet(right, wrong)), [[-1]])
            self.assertEqual(ask(sheet(wrong, wrong)), [[-1]])

    def test_a_refused_sheet_is_no_sheet(self):
        self.assertEqual(ask(sheet(0, 3), holes(), sheet(3, 7), back()), [[-1], [-9], [-1], [-9]])

    def test_a_refused_sheet_leaves_the_one_that_is_there(self):
        calls = [sheet(2, 1), punch(1, 0, 1, 1), sheet(7, 1)]
        self.assertEqual(holed(*calls), [1])
        self.assertEqual(last(*calls, back()), [0, 0])

    def test_a_new_sheet_has_no_holes_cuts_folds_or_way_back(self):
        calls = [sheet(3, 1), fold(1, 2, 1, 1, 2), punch(1, 0, 2, 1), snip(1, 0, 0), sheet(3, 1)]
        self.assertEqual(ask(*calls, holes(), back()), [
            [0], [0, 1], [0, 2], [0, 1], [0], [0, 3, 0, 0, 0], [-2]])
        self.assertEqual(stacks(*calls), {(0, 0): [0], (1, 0): [1], (2, 0): [2]})
        self.assertEqual(last(*calls, fold(1, 1, 0, 1, 0)), [0, 1])


class BeforeAnySheetTest(unittest.TestCase):
    def test_all_calls_but_sheet_are_refused(self):
        for call in (
                fold(1, 1, 1, 1, 0), turn(), punch(0, 0, 1, 1), snip(0, 0, 0), back(), holes(), cuts(), pieces(),
                shape(0), alike(0, 0), through(0, 0), aim([0])):
            self.assertEqual(ask(call), [[-9]])
            self.assertEqual(ask(sheet(0, 1), call, sheet(1, 1), holes()), [[-1], [-9], [0], [0, 1, 0]])

    def test_it_counts_before_every_other_refusal(self):
        for call in (
                fold(2, 1, 2, 2, 99), punch(0, 0, 0, 2), punch(0, 0, 0, 1), snip(0, 0, 4), snip(9, 9, 0),
                shape(BIGGEST), alike(36, 0), alike(0, 36), through(-100, 100), aim([]), aim([2]), aim([1] * 60)):
            self.assertEqual(ask(call), [[-9]])

    def test_the_calls_behind_are_answered(self):
        self.assertEqual(ask(fold(2, -100, 3, 4, BIGGEST), sheet(1, 1), holes()), [[-9], [0], [0, 1, 0]])


class FormTest(unittest.TestCase):
    # All thirteen calls, some of them refused.
    CALLS = joined([
        turn(), sheet(2, 2), fold(1, 1, 1, 1, 1), turn(), punch(0, 0, 1, 1), through(0, 0), aim([1, 1, 0, 0]),
        aim([1, 1, 1]), snip(0, 0, 1), snip(0, 1, 1), snip(0, 0, 4), fold(0, 1, 1, 1, 2), cuts(), pieces(), shape(2),
        shape(4), alike(0, 1), alike(0, 4), holes(), back(), back(), cuts(), back(), holes()])

    def test_each_answer_stands_behind_its_count(self):
        self.assertEqual(answers(self.CALLS), [
            1, -9,
            1, 0,
            2, 0, 2,
            1, 0,
            2, 0, 1,
            2, 0, 1,
            4, 0, 2, 0, 0,
            1, -1,
            2, 0, 1,
            2, 0, 1,
            1, -1,
            1, -4,
            6, 0, 4, 1, 1, 0, 0,
            6, 0, 4, 0, 1, 0, 1,
            8, 0, 6, 0, 0, 0, 0, 1, 1,
            1, -1,
            2, 0, 0,
            1, -1,
            6, 0, 4, 1, 0, 0, 0,
            2, 0, 4,
            2, 0, 3,
            6, 0, 4, 0, 0, 0, 0,
            2, 0, 2,
            6, 0, 4, 0, 0, 0, 0])

    def test_what_is_handed_in_is_not_changed(self):
        handed = list(self.CALLS)
        answers(handed)
        self.assertEqual(handed, self.CALLS)

    def test_what_is_handed_in_is_not_changed_for_a_while(self):
        class Watched(list):
            def refuse(self, *args, **kwargs):
                raise AssertionError("the list that was handed in is changed")
            append = extend = insert = pop = remove = clear = sort = reverse = refuse
            __setitem__ = __delitem__ = __iadd__ = __imul__ = refuse
        self.assertEqual(answers(Watched(self.CALLS)), answers(self.CALLS))

    def test_the_same_list_gives_the_same_again(self):
        first = answers(self.CALLS)
        kept = list(first)
        second = answers(self.CALLS)
        self.assertEqual(second, kept)
        self.assertIsNot(second, first)
        first.clear()
        self.assertEqual(answers(self.CALLS), kept)

    def test_nothing_is_kept_from_one_list_to_the_next(self):
        answers(joined([sheet(6, 6), punch(0, 0, 1, 1), snip(0, 0, 0)]))
        self.assertEqual(answers(joined([holes()])), [1, -9])
        self.assertEqual(ask(sheet(2, 1), back(), holes()), [[0], [-2], [0, 2, 0, 0]])

    def test_answers_are_whole_numbers(self):
        told = answers(self.CALLS)
        self.assertEqual({number.__class__ for number in told}, {int})
        self.assertIs(told.__class__, list)


if __name__ == "__main__":
    unittest.main()

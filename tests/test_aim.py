"""The call aim: the places told do it; where none are, nothing does."""

import itertools
import random
import unittest

from asking import BIGGEST, MOST_CALLS, aim, ask, back, cuts, fold, holes, last, punch, row, sheet, snip, turn

# At x = 0 lie 0, 3, at x = 1 lie 1, 2, each from the bottom up.
HALVED = [sheet(4, 1), fold(1, 2, 1, 1, 3)]

# At 0, 0 lie 0, 1, 3, 2 from the bottom up.
QUARTERED = [sheet(2, 2), fold(1, 1, 1, 1, 1), fold(0, 1, 1, 1, 2)]


def layers(x, y, *calls):
    """How many layers lie at a place after these calls."""
    n = 0
    while last(*calls, punch(x, y, n + 1, 1)) != [-2]:
        n += 1
    return n


def punches(told, *calls):
    """Punches through all layers at the places that are told."""
    return [punch(x, y, layers(x, y, *calls), 1) for x, y in zip(told[::2], told[1::2])]


class RowTest(unittest.TestCase):
    def test_too_short(self):
        for wanted in ([], [0], [1, 0, 0], [0, 0, 0]):
            self.assertEqual(last(sheet(2, 2), aim(wanted)), [-1])

    def test_too_long(self):
        for wanted in ([0] * 5, [1] * 5, [0] * 36, [0] * 60, [1] * 60, [BIGGEST] * 60):
            self.assertEqual(last(sheet(2, 2), aim(wanted)), [-1])

    def test_empty(self):
        for w, h in ((1, 1), (6, 6)):
            self.assertEqual(last(sheet(w, h), aim([])), [-1])

    def test_a_number_above_one(self):
        for wrong in (2, 3, 255, BIGGEST):
            for n in range(4):
                wanted = [0, 1, 0, 1]
                wanted[n] = wrong
                self.assertEqual(last(sheet(2, 2), aim(wanted)), [-1])

    def test_it_counts_before_what_can_not_be_done(self):
        punched = [sheet(2, 2), punch(0, 0, 1, 1)]
        self.assertEqual(last(*punched, aim([0, 0, 0, 0])), [-2])
        for wanted in ([], [0, 0, 0], [0, 0, 0, 0, 0], [0, 0, 0, 2]):
            self.assertEqual(last(*punched, aim(wanted)), [-1])
        self.assertEqual(last(*HALVED, aim([1, 0, 0, 0])), [-2])
        self.assertEqual(last(*HALVED, aim([1, 0, 0, 2])), [-1])
        self.assertEqual(last(*HALVED, aim([1, 0, 0])), [-1])

    def test_before_any_sheet(self):
        for wanted in ([], [0], [1], [2], [BIGGEST] * 60):
            self.assertEqual(ask(aim(wanted), sheet(1, 1), aim([0])), [[-9], [0], [0, 0]])

    def test_the_call_behind_a_row_is_answered(self):
        # A row's numbers are no calls, however long it is and whatever is answered.
        for wanted in ([], [7], [0, 1], [7] * 4, [1, 1, 1, 1], [6] * 60):
            told = ask(aim(wanted), sheet(2, 2), aim(wanted), holes(), aim(wanted), holes(), back())
            self.assertEqual(told[0], [-9])
            self.assertEqual(told[3], [0, 4, 0, 0, 0, 0])
            self.assertEqual(told[5:], [[0, 4, 0, 0, 0, 0], [-2]])


class FlatTest(unittest.TestCase):
    def test_nothing_wanted_and_nothing_punched(self):
        for w, h in ((1, 1), (3, 2), (6, 6)):
            self.assertEqual(last(sheet(w, h), aim([0] * w * h)), [0, 0])

    def test_every_row_of_a_small_sheet(self):
        for wanted in itertools.product((0, 1), repeat=4):
            expected = [number for square in range(4) if wanted[square] for number in (square % 2, square // 2)]
            self.assertEqual(last(sheet(2, 2), aim(list(wanted))), [0, len(expected)] + expected)

    def test_the_lowest_first_then_the_leftmost(self):
        self.assertEqual(last(sheet(3, 2), aim([1] * 6)), [0, 12, 0, 0, 1, 0, 2, 0, 0, 1, 1, 1, 2, 1])
        self.assertEqual(row(sheet(3, 2), aim([0, 0, 1, 1, 0, 1])), [2, 0, 0, 1, 2, 1])

    def test_all_thirty_six(self):
        expected = [number for y in range(6) for x in range(6) for number in (x, y)]
        self.assertEqual(last(sheet(6, 6), aim([1] * 36)), [0, 72] + expected)


class HolesAlreadyTest(unittest.TestCase):
    def test_what_has_a_hole_already_is_not_told(self):
        calls = [sheet(3, 1), punch(1, 0, 1, 1)]
        self.assertEqual(row(*calls, aim([1, 1, 0])), [0, 0])
        self.assertEqual(row(*calls, aim([0, 1, 1])), [2, 0])
        self.assertEqual(last(*calls, aim([0, 1, 0])), [0, 0])

    def test_a_hole_that_is_not_wanted(self):
        calls = [sheet(3, 1), punch(1, 0, 1, 1)]
        for wanted in ([0, 0, 0], [1, 0, 0], [1, 0, 1]):
            self.assertEqual(last(*calls, aim(wanted)), [-2])

    def test_a_hole_that_is_not_wanted_where_another_is(self):
        # 3 has a hole and lies over 0.
        self.assertEqual(last(*HALVED, punch(0, 0, 1, 1), aim([1, 0, 0, 0])), [-2])
        self.assertEqual(last(*HALVED, punch(0, 0, 1, 1), aim([0, 0, 0, 0])), [-2])
        self.assertEqual(last(*HALVED, punch(0, 0, 1, 1), aim([0, 1, 1, 0])), [-2])

    def test_all_layers_wanted_and_some_have_holes(self):
        for n in (1, 2, 3):
            for top in (0, 1):
                self.assertEqual(last(*QUARTERED, punch(0, 0, n, top), aim([1, 1, 1, 1])), [0, 2, 0, 0])

    def test_all_layers_wanted_and_all_have_holes(self):
        self.assertEqual(last(*QUARTERED, punch(0, 0, 4, 1), aim([1, 1, 1, 1])), [0, 0])

    def test_some_layers_wanted_that_have_holes_already(self):
        # Just these have holes, so nothing is to be done there.
        self.assertEqual(last(*HALVED, punch(0, 0, 1, 1), aim([0, 0, 0, 1])), [0, 0])
        self.assertEqual(last(*HALVED, punch(0, 0, 1, 1), aim([0, 1, 1, 1])), [0, 2, 1, 0])
        self.assertEqual(last(*QUARTERED, punch(0, 0, 2, 1), aim([0, 0, 1, 1])), [0, 0])

    def test_some_layers_wanted_of_which_some_have_holes(self):
        calls = QUARTERED + [punch(0, 0, 1, 1)]
        self.assertEqual(last(*calls, aim([0, 0, 1, 1])), [-2])
        self.assertEqual(last(*calls, aim([1, 1, 1, 0])), [-2])
        self.assertEqual(last(*calls, aim([0, 0, 1, 0])), [0, 0])


class FoldedTest(unittest.TestCase):
    def test_every_row_of_a_strip_in_halves(self):
        expected = {
            (0, 0, 0, 0): [0, 0], (1, 0, 0, 1): [0, 2, 0, 0], (0, 1, 1, 0): [0, 2, 1, 0],
            (1, 1, 1, 1): [0, 4, 0, 0, 1, 0]}
        for wanted in itertools.product((0, 1), repeat=4):
            self.assertEqual(last(*HALVED, aim(list(wanted))), expected.get(wanted, [-2]))

    def test_some_layers_wanted(self):
        for wanted in itertools.product((0, 1), repeat=4):
            answer = {0: [0, 0], 4: [0, 2, 0, 0]}.get(sum(wanted), [-2])
            self.assertEqual(last(*QUARTERED, aim(list(wanted))), answer)

    def test_one_place_that_can_and_one_that_can_not(self):
        self.assertEqual(last(*HALVED, aim([1, 1, 0, 1])), [-2])
        self.assertEqual(last(*HALVED, aim([1, 1, 1, 0])), [-2])

    def test_turned_over(self):
        self.assertEqual(row(sheet(3, 2), turn(), aim([1] * 6)), [-2, 0, -1, 0, 0, 0, -2, 1, -1, 1, 0, 1])
        self.assertEqual(row(sheet(3, 2), turn(), aim([1, 0, 1, 0, 1, 0])), [-2, 0, 0, 0, -1, 1])
        self.assertEqual(row(*HALVED, turn(), aim([0, 1, 1, 0])), [-1, 0])

    def test_negative_rows(self):
        # 1 lies over 0 at y = 0, 2 at y = -1, 3 at y = -2.
        calls = [sheet(1, 4), fold(0, 1, 1, 1, 3)]
        self.assertEqual(row(*calls, aim([1, 1, 1, 1])), [0, -2, 0, -1, 0, 0])
        self.assertEqual(row(*calls, aim([1, 1, 0, 1])), [0, -2, 0, 0])

    def test_negative_columns_and_rows(self):
        calls = [sheet(4, 4), fold(1, 1, 1, 1, 3), fold(0, 1, 1, 1, 12)]
        expected = [number for y in (-2, -1, 0) for x in (-2, -1, 0) for number in (x, y)]
        self.assertEqual(row(*calls, aim([1] * 16)), expected)

    def test_columns_and_rows_of_both_signs(self):
        # The four columns that went along lie at x = 1 to -2, the rows both at y = 1.
        calls = [sheet(6, 2), fold(1, 2, 1, 1, 5), fold(0, 1, 0, 1, 0)]
        self.assertEqual([answer[0] for answer in ask(*calls)], [0, 0, 0])
        expected = [number for x in (-2, -1, 0, 1) for number in (x, 1)]
        self.assertEqual(row(*calls, aim([1] * 12)), expected)

    def test_what_is_cut_can_be_aimed_at(self):
        self.assertEqual(row(*HALVED, snip(1, 0, 0), aim([1, 0, 0, 1])), [0, 0])


class DoneTest(unittest.TestCase):
    def test_looking_changes_nothing(self):
        calls = HALVED + [punch(0, 0, 1, 1), aim([1, 1, 1, 1]), aim([0, 0, 0, 0]), aim([2]), holes(), cuts(), back()]
        self.assertEqual(ask(*calls)[3:], [
            [0, 4, 0, 0, 1, 0], [-2], [-1], [0, 4, 0, 0, 0, 1], [0, 3, 0, 0, 0], [0, 1]])

    def test_gone_back(self):
        calls = HALVED + [punch(0, 0, 2, 1)]
        self.assertEqual(last(*calls, aim([1, 1, 1, 1])), [0, 2, 1, 0])
        self.assertEqual(last(*calls, back(), aim([1, 1, 1, 1])), [0, 4, 0, 0, 1, 0])
        self.assertEqual(last(*calls, back(), back(), aim([1, 0, 0, 0])), [0, 2, 0, 0])

    def test_punching_at_the_places_told_gives_just_the_wanted_holes(self):
        packets = [
            [sheet(3, 2)], [sheet(3, 2), turn()], HALVED, QUARTERED, HALVED + [turn(), fold(1, 0, 1, 0, 0)],
            [sheet(4, 2), fold(1, 3, 1, 1, 3), fold(0, 1, 1, 0, 4)],
            [sheet(3, 2), fold(1, 1, 0, 0, 0), punch(1, 0, 1, 1), turn()],
            [sheet(4, 2), fold(1, 2, 1, 1, 3), punch(1, 1, 1, 0), fold(0, 1, 0, 1, 0), punch(0, 1, 4, 1)]]
        for packet in packets:
            self.assertEqual({answer[0] for answer in ask(*packet)}, {0})
            count = len(row(*packet, holes()))
            told_rows = 0
            for wanted in itertools.product((0, 1), repeat=count):
                answer = last(*packet, aim(list(wanted)))
                if answer != [-2]:
                    told_rows += 1
                    done = packet + punches(answer[2:], *packet)
                    self.assertEqual(row(*done, holes()), list(wanted))
                    self.assertEqual(last(*done, aim(list(wanted))), [0, 0])
            self.assertEqual(told_rows, len(reachable(packet)))


def places_of(packet):
    return [(x, y) for x in range(-6, 7) for y in range(-6, 7) if layers(x, y, *packet) > 0]


def reachable(packet):
    """All rows of holes that punching through all layers gives, at every choice of places."""
    found = set()
    places = places_of(packet)
    for chosen in itertools.product((False, True), repeat=len(places)):
        told = [number for place, taken in zip(places, chosen) if taken for number in place]
        found.add(tuple(row(*packet, *punches(told, *packet), holes())))
    return found


class NothingDoesTest(unittest.TestCase):
    def test_rows_that_are_refused_are_reached_by_no_choice_of_places(self):
        for packet in self.packets():
            found = reachable(packet)
            count = len(row(*packet, holes()))
            for wanted in itertools.product((0, 1), repeat=count):
                told = last(*packet, aim(list(wanted)))
                self.assertEqual(told[0], 0 if wanted in found else -2, (packet, wanted))

    def packets(self):
        """Small packets that are folded, turned and punched at random, from fixed seeds."""
        for seed in range(40):
            draw = random.Random(seed)
            w, h = draw.choice([(2, 2), (3, 2), (2, 3), (5, 1), (1, 5), (4, 1)])
            packet = [sheet(w, h)]
            for step in range(6):
                kind = draw.randrange(5)
                k = draw.randrange(-2, 4)
                if kind < 3:
                    call = fold(draw.randrange(2), k, draw.randrange(2), draw.randrange(2), draw.randrange(w * h))
                elif kind == 3:
                    call = turn()
                else:
                    call = punch(k, draw.randrange(2), draw.randrange(1, 4), draw.randrange(2))
                packet.append(call)
            self.assertLess(len(packet) + w * h, MOST_CALLS)
            yield packet


if __name__ == "__main__":
    unittest.main()

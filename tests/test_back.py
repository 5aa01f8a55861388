"""The call back: gone back all is as it was."""

import unittest

from asking import (
    DOWN, LEFT, RIGHT, UP, aim, alike, ask, back, cuts, fold, holes, last, pieces, punch, shape, sheet, snip, through,
    turn)

SQUARES = range(8)


def looks():
    """The calls that change nothing, and ask for all that there is of eight squares."""
    found = [holes(), cuts(), pieces()]
    found += [shape(square) for square in SQUARES]
    found += [alike(one, other) for one in SQUARES for other in SQUARES]
    found += [through(x, y) for x in range(-4, 5) for y in range(-1, 3)]
    found += [aim([1] * 8), aim([0] * 8)]
    found += [aim([int(one in (first, second)) for one in SQUARES]) for first in SQUARES for second in SQUARES]
    return found


def seen(calls):
    """All that can be found out about a sheet after these calls."""
    found = [last(*calls, look) for look in looks()]
    found.append(last(*calls, back()))
    for x in range(-4, 5):
        for y in range(-1, 3):
            for side in (RIGHT, LEFT, UP, DOWN):
                found.append(ask(*calls, snip(x, y, side), cuts())[-2:])
            n = 1
            while last(*calls, punch(x, y, n, 1)) != [-2]:
                found.append((x, y, n, last(*calls, punch(x, y, n, 1), holes())))
                n += 1
    for up in (0, 1):
        for k in range(-3, 4):
            for high in (0, 1):
                found.extend(last(*calls, fold(up, k, high, 1, square)) for square in SQUARES)
    return found


class BackTest(unittest.TestCase):
    MIXED = [
        sheet(4, 2), punch(3, 1, 1, 1), fold(1, 2, 1, 1, 3), punch(1, 0, 1, 1), turn(), fold(0, 1, 1, 0, 4),
        punch(-1, 0, 3, 0), fold(1, 0, 1, 1, 0), punch(-1, 0, 1, 1), snip(-1, 0, UP), turn(), snip(1, 0, LEFT),
        punch(1, 0, 2, 0), snip(1, 0, LEFT)]

    def test_all_of_these_are_done(self):
        for answer in ask(*self.MIXED):
            self.assertEqual(answer[0], 0)

    def test_one_by_one_to_the_beginning_and_once_more(self):
        for length in range(1, len(self.MIXED) + 1):
            done = self.MIXED[:length]
            steps = [back()] * min(length, 24 - length)
            expected = [[0, length - 2 - k] if k < length - 1 else [-2] for k in range(len(steps))]
            self.assertEqual(ask(*done, *steps)[length:], expected)

    def test_gone_back_all_is_as_it_was(self):
        for length in range(1, 12):
            expected = seen(self.MIXED[:length])
            for more in (1, 2, 3):
                calls = self.MIXED[:length + more] + [back()] * more
                self.assertEqual(seen(calls), expected)

    def test_gone_all_the_way_back(self):
        done = self.MIXED[:10]
        self.assertEqual(seen(done + [back()] * 9), seen([sheet(4, 2)]))
        self.assertEqual(seen(done + [back()] * 10), seen([sheet(4, 2)]))

    def test_another_way_after_going_back(self):
        calls = [sheet(3, 1), fold(1, 2, 1, 1, 2), punch(1, 0, 1, 1), back(), turn(), back(), back(), punch(2, 0, 1, 1)]
        self.assertEqual(ask(*calls, holes(), back(), back()), [
            [0], [0, 1], [0, 1], [0, 1], [0], [0, 1], [0, 0], [0, 1], [0, 3, 0, 0, 1], [0, 0], [-2]])

    def test_what_was_cut_can_be_folded_again(self):
        calls = [sheet(3, 1), snip(0, 0, RIGHT), fold(1, 2, 1, 1, 2), back(), fold(1, 2, 1, 1, 2)]
        self.assertEqual(ask(*calls), [[0], [0, 1], [-4], [0, 0], [0, 1]])

    def test_nothing_to_go_back_from(self):
        self.assertEqual(ask(sheet(2, 2), back(), back(), holes()), [[0], [-2], [-2], [0, 4, 0, 0, 0, 0]])

    def test_looking_is_nothing_to_go_back_from(self):
        for look in looks():
            self.assertEqual(last(sheet(4, 2), look, back()), [-2])
            self.assertEqual(last(*self.MIXED, look, back()), [0, len(self.MIXED) - 2])


if __name__ == "__main__":
    unittest.main()

"""Many lines of calls, drawn from fixed seeds, answered by the program and by the model in model.py."""

import random
import unittest

from asking import (
    BIGGEST, MOST_CALLS, aim, alike, ask, back, cuts, fold, holes, joined, pieces, punch, shape, sheet, snip, through,
    turn)
from model import Line
from punchfold.sheet import answers

MIXED_LINES = 600
OTHER_LINES = 150


def some_number(draw, most):
    """Mostly a number that is in order, now and then one beyond."""
    if draw.randrange(25) == 0:
        return draw.choice([most + 1, most + 2, BIGGEST])
    return draw.randrange(most + 1)


def some_place(draw, model):
    if draw.randrange(12) == 0:
        return draw.choice([(draw.randrange(-7, 8), draw.randrange(-7, 8)), (100, -100), (-100, 100)])
    square = draw.choice(model.squares)
    return (square.x, square.y)


def some_fold(draw, model):
    """Mostly one of a line through the packet, with a square on the side that is folded."""
    up, high, over = (some_number(draw, 1) for time in range(3))
    ends = [square.x if up else square.y for square in model.squares]
    k = draw.randint(min(ends), max(ends) + 1)
    if draw.randrange(20) == 0:
        k = draw.choice([-100, min(ends) - 1, max(ends) + 2, 100])
    on_side = [n for n, end in enumerate(ends) if (end >= k) == bool(high)]
    if on_side and draw.randrange(10) > 0:
        return fold(up, k, high, over, draw.choice(on_side))
    return fold(up, k, high, over, some_number(draw, len(model.squares) - 1))


def some_row(draw, model):
    """Mostly one that can be aimed at: what has holes, and all layers of some places."""
    wanted = [square.hole for square in model.squares]
    for square in draw.sample(model.squares, draw.randrange(len(model.squares))):
        if draw.randrange(3) == 0:
            for n, other in enumerate(model.squares):
                if (other.x, other.y) == (square.x, square.y):
                    wanted[n] = 1
    spoil = draw.randrange(12)
    if spoil == 0:
        wanted[draw.randrange(len(wanted))] = draw.choice([2, BIGGEST])
    elif spoil == 1:
        wanted = draw.choice([[], wanted[1:], wanted + [0], wanted + [1], [0] * 60])
    elif spoil < 6:
        n = draw.randrange(len(wanted))
        wanted[n] = 1 - wanted[n]
    return wanted


def some_look(draw, model):
    """A call that changes nothing."""
    most = len(model.squares) - 1
    choice = draw.randrange(9)
    if choice < 3:
        return [holes(), cuts(), pieces()][choice]
    if choice == 3:
        return shape(some_number(draw, most))
    if choice < 6:
        return alike(some_number(draw, most), some_number(draw, most))
    if choice == 6:
        return through(*some_place(draw, model))
    return aim(some_row(draw, model))


def some_sheet(draw):
    return sheet(some_number(draw, 5) + 1, some_number(draw, 5) + 1)


def some_punch(draw, model):
    x, y = some_place(draw, model)
    return punch(x, y, draw.randint(0, len(model.at(x, y)) + 1), some_number(draw, 1))


def some_snip(draw, model):
    x, y = some_place(draw, model)
    return snip(x, y, some_number(draw, 3))


def call_without_sheet(draw):
    choice = draw.randrange(10)
    if choice > 1:
        return some_sheet(draw) if choice > 2 else sheet(0, 3)
    return draw.choice([
        fold(1, 1, 1, 1, 0), turn(), punch(0, 0, 1, 1), snip(0, 0, 0), back(), holes(), cuts(), pieces(),
        shape(0), alike(0, 0), through(0, 0), aim([0]), aim([]), aim([6] * 60)])


def mixed_call(draw, model, snips):
    choice = draw.randrange(100)
    if choice < 28:
        return some_fold(draw, model)
    if choice < 34:
        return turn()
    if choice < 46:
        return some_punch(draw, model)
    if choice < 62:
        return some_snip(draw, model) if snips else some_look(draw, model)
    if choice < 69:
        return back()
    if choice < 99:
        return some_look(draw, model)
    return some_sheet(draw)


def played(choose):
    """A line of 24 calls, what the model answers, and the faults of its packets."""
    line = Line()
    calls = []
    expected = []
    faults = []
    for n in range(MOST_CALLS):
        call = choose(n, line.model)
        calls.append(call)
        expected.append(line.answer(call))
        if line.model is not None:
            faults.extend(line.model.faults())
    return calls, expected, faults


def mixed_line(seed):
    """All calls, as it comes."""
    draw = random.Random(seed)

    def choose(n, model):
        if model is None:
            return call_without_sheet(draw)
        # Snips hinder folds, so most lines have them only towards the end.
        return mixed_call(draw, model, seed % 4 == 0 or n > 14)
    return played(choose)


def cutting_line(seed):
    """A packet that is snipped again and again, and what it falls into."""
    draw = random.Random(seed)

    def choose(n, model):
        if n == 0:
            return sheet(draw.randint(1, 4), draw.randint(1, 4))
        if n < 3:
            return draw.choice([some_fold, some_punch])(draw, model)
        if n < 15 or n == 19:
            return some_snip(draw, model)
        most = len(model.squares) - 1
        one, other = some_number(draw, most), some_number(draw, most)
        return draw.choice([cuts(), pieces(), shape(one), alike(one, other), alike(one, other), turn(), back()])
    return played(choose)


def returning_line(seed):
    """Three sheets one behind another, each gone back on to its beginning and once more."""
    draw = random.Random(seed)

    def choose(n, model):
        step = n % 8
        if step == 0:
            return sheet(draw.randint(1, 6), draw.randint(1, 6))
        if step < 3:
            return draw.choice([some_fold, some_punch, some_snip])(draw, model)
        if step == 3 or step == 7:
            return some_look(draw, model)
        return back()
    return played(choose)


def lines():
    for seed in range(MIXED_LINES):
        yield mixed_line(seed)
    for seed in range(OTHER_LINES):
        yield cutting_line(seed)
        yield returning_line(seed)


class AgainstModelTest(unittest.TestCase):
    @classmethod
    def setUpClass(cls):
        cls.lines = list(lines())

    def test_the_answers_are_the_models(self):
        for calls, expected, faults in self.lines:
            with self.subTest(calls=calls):
                self.assertEqual(faults, [])
                self.assertEqual(ask(*calls), expected)

    def test_the_lines_meet_every_answer(self):
        met = set()
        for calls, expected, faults in self.lines:
            for call, answer in zip(calls, expected):
                met.add((call[0], min(answer[0], 0)))
        self.assertEqual(met, {
            (1, 0), (1, -1),
            (2, 0), (2, -1), (2, -2), (2, -3), (2, -4), (2, -9),
            (3, 0), (3, -9),
            (4, 0), (4, -1), (4, -2), (4, -9),
            (5, 0), (5, -1), (5, -2), (5, -9),
            (6, 0), (6, -2), (6, -9),
            (7, 0), (7, -9),
            (8, 0), (8, -9),
            (9, 0), (9, -9),
            (10, 0), (10, -1), (10, -9),
            (11, 0), (11, -1), (11, -9),
            (12, 0), (12, -2), (12, -9),
            (13, 0), (13, -1), (13, -2), (13, -9)})

    def test_the_lines_meet_what_is_rare(self):
        """Sheets in many pieces, pieces alike and not, and aims with and without places."""
        met = set()
        for calls, expected, faults in self.lines:
            for call, answer in zip(calls, expected):
                if call[0] == 11 and call[1] != call[2] and answer[0] == 0:
                    met.add(("alike", answer[1]))
                if call[0] == 9 and answer[0] == 0:
                    met.add(("pieces", min(len(set(answer[2:])), 6)))
                if call[0] == 13 and answer[0] == 0:
                    met.add(("places", min(answer[1] // 2, 3)))
        expected = {("alike", same) for same in range(2)}
        expected |= {("pieces", count) for count in range(1, 7)}
        expected |= {("places", count) for count in range(4)}
        self.assertEqual(met, expected)

    def test_the_same_list_gives_the_same_and_is_not_changed(self):
        for calls, expected, faults in self.lines:
            handed = joined(calls)
            kept = list(handed)
            first = answers(handed)
            self.assertEqual(handed, kept)
            self.assertEqual(answers(handed), first)


if __name__ == "__main__":
    unittest.main()

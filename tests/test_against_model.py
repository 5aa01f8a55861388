"""Many lines of calls, drawn from fixed seeds, answered by the program and by the model in model.py."""

import random
import unittest

from asking import BIGGEST, ask, back, fold, holes, punch, sheet, snip, turn
from model import Line

LINES = 600


def some_number(draw, most):
    """Mostly a number that is in order, now and then one beyond."""
    if draw.randrange(25) == 0:
        return draw.choice([most + 1, most + 2, BIGGEST])
    return draw.randrange(most + 1)


def some_place(draw, model):
    if draw.randrange(12) == 0:
        return draw.choice([(draw.randrange(-7, 8), draw.randrange(-7, 8)), (100, -100), (-100, 100)])
    square = draw.choice(model.squares)
    return (square.x, square.y)


def some_fold(draw, model):
    """Mostly one of a line through the packet, with a square on the side that is folded."""
    up, high, over = (some_number(draw, 1) for time in range(3))
    ends = [square.x if up else square.y for square in model.squares]
    k = draw.randint(min(ends), max(ends) + 1)
    if draw.randrange(20) == 0:
        k = draw.choice([-100, min(ends) - 1, max(ends) + 2, 100])
    on_side = [n for n, end in enumerate(ends) if (end >= k) == bool(high)]
    if on_side and draw.randrange(10) > 0:
        return fold(up, k, high, over, draw.choice(on_side))
    return fold(up, k, high, over, some_number(draw, len(model.squares) - 1))


def some_call(draw, model, snips):
    if model is None:
        choice = draw.randrange(10)
        if choice > 1:
            return sheet(some_number(draw, 5) + 1, some_number(draw, 5) + 1) if choice > 2 else sheet(0, 3)
        return draw.choice([fold(1, 1, 1, 1, 0), turn(), punch(0, 0, 1, 1), snip(0, 0, 0), back(), holes()])
    choice = draw.randrange(100)
    if choice < 45:
        return some_fold(draw, model)
    if choice < 53:
        return turn()
    if choice < 70:
        x, y = some_place(draw, model)
        return punch(x, y, draw.randint(0, len(model.at(x, y)) + 1), some_number(draw, 1))
    if choice < 82:
        if not snips:
            return holes()
        x, y = some_place(draw, model)
        return snip(x, y, some_number(draw, 3))
    if choice < 91:
        return back()
    if choice < 99:
        return holes()
    return sheet(some_number(draw, 5) + 1, some_number(draw, 5) + 1)


def some_line(seed):
    """A line of 24 calls, what the model answers, and the faults of its packets."""
    draw = random.Random(seed)
    line = Line()
    calls = []
    expected = []
    faults = []
    for count in range(23):
        # Snips hinder folds, so most lines have them only towards the end.
        snips = seed % 4 == 0 or count > 14
        call = some_call(draw, line.model, snips)
        calls.append(call)
        expected.append(line.answer(call))
        if line.model is not None:
            faults.extend(line.model.faults())
    calls.append(holes())
    expected.append(line.answer(holes()))
    return calls, expected, faults


class AgainstModelTest(unittest.TestCase):
    def test_the_answers_are_the_models(self):
        for seed in range(LINES):
            calls, expected, faults = some_line(seed)
            with self.subTest(seed=seed, calls=calls):
                self.assertEqual(faults, [])
                self.assertEqual(ask(*calls), expected)

    def test_the_lines_meet_every_answer(self):
        met = set()
        for seed in range(LINES):
            calls, expected, faults = some_line(seed)
            for call, answer in zip(calls, expected):
                met.add((call[0], min(answer[0], 0)))
        self.assertEqual(met, {
            (1, 0), (1, -1),
            (2, 0), (2, -1), (2, -2), (2, -3), (2, -4), (2, -9),
            (3, 0), (3, -9),
            (4, 0), (4, -1), (4, -2), (4, -9),
            (5, 0), (5, -1), (5, -2), (5, -9),
            (6, 0), (6, -2), (6, -9),
            (7, 0), (7, -9)})


if __name__ == "__main__":
    unittest.main()

"""How the tests write calls and read answers."""

from punchfold.sheet import answers

BIGGEST = 4294967295
MOST_CALLS = 24
RIGHT, LEFT, UP, DOWN = 0, 1, 2, 3


def sheet(w, h):
    return [1, w, h]


def fold(up, k, high, over, square):
    return [2, up, k, high, over, square]


def turn():
    return [3]


def punch(x, y, n, top):
    return [4, x, y, n, top]


def snip(x, y, side):
    return [5, x, y, side]


def back():
    return [6]


def holes():
    return [7]


def cuts():
    return [8]


def pieces():
    return [9]


def shape(square):
    return [10, square]


def alike(one, other):
    return [11, one, other]


def through(x, y):
    return [12, x, y]


def aim(row):
    return [13, len(row)] + row


def joined(calls):
    return [number for call in calls for number in call]


def split(told):
    """The answers one by one, without the counts before them."""
    found = []
    start = 0
    while start < len(told):
        end = start + 1 + told[start]
        if end > len(told):
            raise AssertionError("an answer is shorter than its count: %r" % (told,))
        found.append(told[start + 1:end])
        start = end
    return found


def ask(*calls):
    """The answers to these calls, one list each."""
    if len(calls) > MOST_CALLS:
        raise AssertionError("a line has at most %d calls" % MOST_CALLS)
    found = split(answers(joined(calls)))
    if len(found) != len(calls):
        raise AssertionError("%d calls, %d answers" % (len(calls), len(found)))
    return found


def last(*calls):
    """The answer to the last of these calls."""
    return ask(*calls)[-1]


def row(*calls):
    """The row that the last of these calls answers."""
    answer = last(*calls)
    if answer[0] != 0 or answer[1] != len(answer) - 2:
        raise AssertionError("no row: %r" % (answer,))
    return answer[2:]


def holed(*calls):
    """The squares that have holes after these calls."""
    return [square for square, hole in enumerate(row(*calls, holes())) if hole == 1]


def stack(x, y, *calls):
    """The squares at a place after these calls (which punch nothing), from the bottom up, found by punching."""
    found = []
    while True:
        more = ask(*calls, punch(x, y, len(found) + 1, 0), holes())
        if more[-2] == [-2]:
            return found
        new = [square for square, hole in enumerate(more[-1][2:]) if hole == 1 and square not in found]
        if len(new) != 1:
            raise AssertionError("one more layer gave %r" % (new,))
        found.extend(new)


def stacks(*calls):
    """All stacks after these calls (which punch nothing), by place."""
    found = {}
    for x in range(-14, 15):
        for y in range(-14, 15):
            squares = stack(x, y, *calls)
            if squares:
                found[x, y] = squares
    return found

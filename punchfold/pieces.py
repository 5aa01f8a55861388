"""Pieces: what hangs together when joins are cut, and the shapes of it."""

from punchfold.packet import all_squares
from punchfold.packet import join_of
from punchfold.packet import squares_beside
from punchfold.reach import reached_from
from punchfold.work import hole_of


def still_joined(work, square):
    """The squares beside a square that it is not cut from."""
    return [other for other in squares_beside(work.packet, square) if join_of(square, other) not in work.cuts]


def piece_of(work, square):
    """The squares of a square's piece, as a dict of True."""
    return reached_from(square, lambda other: still_joined(work, other))


def square_labels(work):
    """Of each square the lowest square of its piece."""
    labels = {}
    for square in all_squares(work.packet):
        # Lower squares have told their pieces already, so one without a label is the lowest of its own.
        if square not in labels:
            for other in piece_of(work, square):
                labels[other] = square
    return [labels[square] for square in all_squares(work.packet)]


def piece_shape(work, square):
    """The shape of a square's piece: the least of the ways to lay it, of each square row, column and hole."""
    width = work.packet.width
    cells = [(other // width, other % width, hole_of(work, other)) for other in piece_of(work, square)]
    return min(ways_to_lay(cells))


def ways_to_lay(cells):
    """The eight ways to turn a piece by quarters and over."""
    ways = []
    lying = cells
    for quarter in range(4):
        ways.append(counted_anew(lying))
        ways.append(counted_anew(cells_over(lying)))
        lying = cells_quartered(lying)
    return ways


def cells_over(cells):
    """A piece that is turned over left to right."""
    return [(cell[0], -cell[1], cell[2]) for cell in cells]


def cells_quartered(cells):
    """A piece that is turned by a quarter."""
    return [(cell[1], -cell[0], cell[2]) for cell in cells]


def counted_anew(cells):
    """A piece in order, its rows and columns counted from its lowest row and leftmost column."""
    lowest = min([cell[0] for cell in cells])
    leftmost = min([cell[1] for cell in cells])
    return sorted([(cell[0] - lowest, cell[1] - leftmost, cell[2]) for cell in cells])

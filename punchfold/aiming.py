"""Aiming: where to punch through all layers to get the holes that are wanted."""

from punchfold.packet import stack_at
from punchfold.work import hole_of


def row_order(place):
    """What places are put in order by: the lowest first, in a row from the left."""
    return (place[1], place[0])


def places_to_punch(work, wanted):
    """The places through all of whose layers to punch, in order, or None where that can't do it.

    wanted tells of each square 1 if it is to have a hole, else 0.
    """
    found = []
    for place in sorted(list(work.packet.stacks), key=row_order):
        stack = stack_at(work.packet, place)
        # A place is punched through or left alone: it must be as wanted already, or be wanted all through.
        if all([hole_of(work, square) == wanted[square] for square in stack]):
            continue
        if 0 in [wanted[square] for square in stack]:
            return None
        found.append(place)
    return found

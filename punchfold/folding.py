"""Folds: what goes along when a packet is folded along a line, and how it lies then."""

from punchfold.packet import Packet
from punchfold.packet import squares_beside
from punchfold.reach import reached_from


class Fold:
    """A line, the side of it that is folded, and whether that comes to lie over the rest or under it."""

    def __init__(self, upright, line, high, over):
        # The axis is the index in a place of the number that the fold changes.
        self.axis = 1 - upright
        self.line = line
        self.high = high
        self.over = over


def on_folded_side(fold, place):
    """Whether a place lies on the side of the line that is folded."""
    if fold.high == 1:
        return place[fold.axis] >= fold.line
    return place[fold.axis] < fold.line


def squares_along(packet, fold, square):
    """All that goes along when a square is taken hold of, as a dict of True."""
    return reached_from(square, lambda puller: pulled_by(packet, fold, puller))


def pulled_by(packet, fold, square):
    """What a square that goes along takes with it straight away."""
    pulled = []
    for other in squares_beside(packet, square):
        if on_folded_side(fold, packet.places[other]):
            pulled.append(other)
    stack = packet.stacks[packet.places[square]]
    layer = stack.index(square)
    if fold.over == 1:
        return pulled + stack[layer + 1:]
    return pulled + stack[:layer]


def folded(packet, fold, going):
    """The packet after the fold, with what goes along on the other side of the line."""
    places = []
    turns = []
    for square, place in enumerate(packet.places):
        if square in going:
            places.append(mirrored(fold, place))
            turns.append(flipped(fold, packet.turns[square]))
        else:
            places.append(place)
            turns.append(packet.turns[square])
    return Packet(packet.width, packet.height, places, turns, folded_stacks(packet, fold, going))


def mirrored(fold, place):
    """The place as far from the line on its other side."""
    if fold.axis == 0:
        return (2 * fold.line - 1 - place[0], place[1])
    return (place[0], 2 * fold.line - 1 - place[1])


def flipped(fold, turn):
    """A square's turns after it went along."""
    if fold.axis == 0:
        return (1 - turn[0], turn[1])
    return (turn[0], 1 - turn[1])


def folded_stacks(packet, fold, going):
    """The stacks after the fold: what stays keeps its order, what comes lies the other way round."""
    laid = {}
    for place, stack in packet.stacks.items():
        staying = [square for square in stack if square not in going]
        if len(staying) > 0:
            laid[place] = staying
    for place, stack in packet.stacks.items():
        coming = [square for square in reversed(stack) if square in going]
        if len(coming) > 0:
            target = mirrored(fold, place)
            laid[target] = laid_together(fold, laid.get(target, []), coming)
    return laid


def laid_together(fold, staying, coming):
    """One stack of what stays at a place and what has come there."""
    if fold.over == 1:
        return staying + coming
    return coming + staying

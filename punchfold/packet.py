"""Packets: where the squares of a folded sheet lie, how they are turned and in which layers."""

RIGHT = 0
LEFT = 1
UP = 2
DOWN = 3

# By an edge's number: the step on the sheet, in column and row, to what lies beyond it.
STEPS = ((1, 0), (-1, 0), (0, 1), (0, -1))


class Packet:
    """Of each square its place (x, y) and its turns (left to right, bottom to top); of each place its squares.

    A stack holds the squares of a place from the bottom up, so a square's layer is its index there.
    A packet is not changed once it is made: an earlier one can be taken up again as it was.
    """

    def __init__(self, width, height, places, turns, stacks):
        self.width = width
        self.height = height
        self.places = places
        self.turns = turns
        self.stacks = stacks


def flat_packet(width, height):
    """A sheet that lies flat, each square alone at its column and row."""
    places = [(square % width, square // width) for square in range(width * height)]
    turns = [(0, 0) for place in places]
    stacks = {}
    for square, place in enumerate(places):
        stacks[place] = [square]
    return Packet(width, height, places, turns, stacks)


def turned_over(packet):
    """The packet seen from behind, where it lies."""
    places = [(-place[0], place[1]) for place in packet.places]
    turns = [(1 - turn[0], turn[1]) for turn in packet.turns]
    stacks = {}
    for place, stack in packet.stacks.items():
        stacks[(-place[0], place[1])] = list(reversed(stack))
    return Packet(packet.width, packet.height, places, turns, stacks)


def all_squares(packet):
    """The squares of the sheet by their numbers."""
    return list(range(len(packet.places)))


def stack_at(packet, place):
    """The squares at a place from the bottom up; none where nothing lies."""
    return list(packet.stacks.get(place, []))


def beyond_edge(packet, square, edge):
    """The square that is joined to an edge of a square on the sheet, or None where the sheet ends."""
    step = STEPS[edge]
    column = square % packet.width + step[0]
    row = square // packet.width + step[1]
    if 0 <= column < packet.width and 0 <= row < packet.height:
        return packet.width * row + column
    return None


def squares_beside(packet, square):
    """The squares next to a square in its row and its column of the sheet."""
    found = []
    for edge in (RIGHT, LEFT, UP, DOWN):
        other = beyond_edge(packet, square, edge)
        if other is not None:
            found.append(other)
    return found


def edge_at_side(packet, square, side):
    """The edge of a square that lies at a side of its place."""
    turn = packet.turns[square]
    # Opposite sides differ in their last bit alone, so a turn swaps them by that bit.
    if side in (RIGHT, LEFT):
        return side ^ turn[0]
    return side ^ turn[1]


def join_of(square, other):
    """The join of two squares beside one another, the lower first whichever is asked from."""
    return (min(square, other), max(square, other))


def all_joins(packet):
    """The joins of the sheet in their order: those to the right by their squares' numbers, then those upward."""
    joins = []
    for edge in (RIGHT, UP):
        for square in all_squares(packet):
            other = beyond_edge(packet, square, edge)
            if other is not None:
                joins.append(join_of(square, other))
    return joins


def join_at_side(packet, square, side):
    """The join of a square at a side of its place, or None where the sheet ends."""
    other = beyond_edge(packet, square, edge_at_side(packet, square, side))
    if other is None:
        return None
    return join_of(square, other)

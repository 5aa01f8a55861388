"""Sheets that are worked on: packets with holes and cuts, and the way back."""

from punchfold.packet import join_at_side
from punchfold.packet import stack_at


class Work:
    """A packet, the squares that have a hole and the joins that are cut, both as dicts of True.

    It is not changed once it is made: what is done to it makes another, and the old one is kept to go back to.
    """

    def __init__(self, packet, holes, cuts):
        self.packet = packet
        self.holes = holes
        self.cuts = cuts


class Desk:
    """The sheet that the calls are made on, and what it was before each thing that was done to it."""

    def __init__(self):
        self.present = None
        self.earlier = []

    def lay_new(self, work):
        # What was done to another sheet can't be gone back from on this one.
        self.present = work
        self.earlier = []

    def go_on_to(self, work):
        self.earlier.append(self.present)
        self.present = work

    def go_back(self):
        self.present = self.earlier.pop()


def hole_of(work, square):
    """1 if a square has a hole, else 0."""
    return 1 if square in work.holes else 0


def cut_of(work, join):
    """1 if a join is cut, else 0."""
    return 1 if join in work.cuts else 0


def with_packet(work, packet):
    """The same holes and cuts in a packet that was folded or turned over."""
    return Work(packet, work.holes, work.cuts)


def punched(work, squares):
    """The work with holes in these squares too."""
    holes = dict(work.holes)
    for square in squares:
        holes[square] = True
    return Work(work.packet, holes, work.cuts)


def layers_through(stack, count, top):
    """The squares of a stack that a punch through so many layers meets."""
    if top == 1:
        return stack[len(stack) - count:]
    return stack[:count]


def snipped(work, place, side):
    """The work with all joins at a side of a place cut too."""
    cuts = dict(work.cuts)
    for square in stack_at(work.packet, place):
        join = join_at_side(work.packet, square, side)
        if join is not None:
            cuts[join] = True
    return Work(work.packet, work.holes, cuts)

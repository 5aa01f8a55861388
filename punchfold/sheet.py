"""The calls on a sheet and their answers."""

from punchfold.aiming import places_to_punch
from punchfold.folding import Fold
from punchfold.folding import folded
from punchfold.folding import on_folded_side
from punchfold.folding import squares_along
from punchfold.packet import DOWN
from punchfold.packet import all_joins
from punchfold.packet import all_squares
from punchfold.packet import flat_packet
from punchfold.packet import stack_at
from punchfold.packet import turned_over
from punchfold.pieces import piece_shape
from punchfold.pieces import square_labels
from punchfold.work import Desk
from punchfold.work import Work
from punchfold.work import cut_of
from punchfold.work import hole_of
from punchfold.work import layers_through
from punchfold.work import punched
from punchfold.work import snipped
from punchfold.work import with_packet

SHEET = 1
AIM = 13
LONGEST_SIDE = 6
NO_SHEET = -9
DONE = 0


def answer_sheet(desk, numbers):
    width = numbers[0]
    height = numbers[1]
    if not (1 <= width <= LONGEST_SIDE and 1 <= height <= LONGEST_SIDE):
        return [-1]
    desk.lay_new(Work(flat_packet(width, height), {}, {}))
    return [DONE]


def answer_fold(desk, numbers):
    upright = numbers[0]
    high = numbers[2]
    over = numbers[3]
    square = numbers[4]
    if max(upright, high, over) > 1:
        return [-1]
    fold = Fold(upright, numbers[1], high, over)
    packet = desk.present.packet
    if square >= len(packet.places) or not on_folded_side(fold, packet.places[square]):
        return [-2]
    going = squares_along(packet, fold, square)
    if len(going) == len(packet.places):
        return [-3]
    if len(desk.present.cuts) > 0:
        return [-4]
    desk.go_on_to(with_packet(desk.present, folded(packet, fold, going)))
    return [DONE, len(going)]


def answer_turn(desk, numbers):
    desk.go_on_to(with_packet(desk.present, turned_over(desk.present.packet)))
    return [DONE]


def answer_punch(desk, numbers):
    count = numbers[2]
    top = numbers[3]
    if top > 1:
        return [-1]
    before = desk.present
    stack = stack_at(before.packet, (numbers[0], numbers[1]))
    if count == 0 or len(stack) < count:
        return [-2]
    desk.go_on_to(punched(before, layers_through(stack, count, top)))
    return [DONE, len(desk.present.holes) - len(before.holes)]


def answer_snip(desk, numbers):
    place = (numbers[0], numbers[1])
    side = numbers[2]
    if side > DOWN:
        return [-1]
    before = desk.present
    if len(stack_at(before.packet, place)) == 0:
        return [-2]
    desk.go_on_to(snipped(before, place, side))
    return [DONE, len(desk.present.cuts) - len(before.cuts)]


def answer_back(desk, numbers):
    if len(desk.earlier) == 0:
        return [-2]
    desk.go_back()
    return [DONE, len(desk.earlier)]


def answer_holes(desk, numbers):
    work = desk.present
    return row_answer([hole_of(work, square) for square in all_squares(work.packet)])


def answer_cuts(desk, numbers):
    work = desk.present
    return row_answer([cut_of(work, join) for join in all_joins(work.packet)])


def answer_pieces(desk, numbers):
    return row_answer(square_labels(desk.present))


def answer_shape(desk, numbers):
    square = numbers[0]
    if square >= len(desk.present.packet.places):
        return [-1]
    return row_answer(in_one_row(piece_shape(desk.present, square)))


def answer_alike(desk, numbers):
    one = numbers[0]
    other = numbers[1]
    work = desk.present
    if max(one, other) >= len(work.packet.places):
        return [-1]
    return [DONE, 1 if piece_shape(work, one) == piece_shape(work, other) else 0]


def answer_through(desk, numbers):
    work = desk.present
    stack = stack_at(work.packet, (numbers[0], numbers[1]))
    if len(stack) == 0:
        return [-2]
    return [DONE, len([square for square in stack if hole_of(work, square) == 0])]


def answer_aim(desk, numbers):
    # The first number is how many the row has.
    wanted = numbers[1:]
    work = desk.present
    if len(wanted) != len(work.packet.places) or max(wanted) > 1:
        return [-1]
    places = places_to_punch(work, wanted)
    if places is None:
        return [-2]
    return row_answer(in_one_row(places))


def in_one_row(tuples):
    """The numbers of some tuples one behind another."""
    row = []
    for numbers in tuples:
        row.extend(numbers)
    return row


def row_answer(row):
    return [DONE, len(row)] + row


# By a call's number: how many whole numbers stand behind it, ahead of its row if it has one.
LENGTHS = {1: 2, 2: 5, 3: 0, 4: 4, 5: 3, 6: 0, 7: 0, 8: 0, 9: 0, 10: 1, 11: 2, 12: 2, 13: 0}

# By a call's number: what answers it.
ANSWERERS = {
    1: answer_sheet,
    2: answer_fold,
    3: answer_turn,
    4: answer_punch,
    5: answer_snip,
    6: answer_back,
    7: answer_holes,
    8: answer_cuts,
    9: answer_pieces,
    10: answer_shape,
    11: answer_alike,
    12: answer_through,
    13: answer_aim,
}


def answer_call(desk, call, numbers):
    """The answer to one call, a refusal as its number alone."""
    if call != SHEET and desk.present is None:
        return [NO_SHEET]
    answerer = ANSWERERS[call]
    return answerer(desk, numbers)


def end_of_call(calls, start):
    """Where the call that begins at start has ended."""
    end = start + 1 + LENGTHS[calls[start]]
    if calls[start] == AIM:
        return end + 1 + calls[end]
    return end


def answers(calls):
    """Of each call in the list, in order: how many numbers its answer has, and the answer."""
    desk = Desk()
    told = []
    start = 0
    while start < len(calls):
        end = end_of_call(calls, start)
        answer = answer_call(desk, calls[start], calls[start + 1:end])
        told.append(len(answer))
        told.extend(answer)
        start = end
    return told

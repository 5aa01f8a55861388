"""The document's words once more, square by square and without any shortcut, to hold the program against.

Edges are found by where their middles lie (in halves of a square), layers by numbers, what goes along by
trying all squares again until none is added, labels by lowering them until none can be lowered, and what is
aimed at by punching a copy and looking at it.
"""

import copy

MIDDLES = {"right": (1, 0), "left": (-1, 0), "up": (0, 1), "down": (0, -1)}
SIDES = ("right", "left", "up", "down")


class Square:
    def __init__(self, column, row):
        self.column = column
        self.row = row
        self.x = column
        self.y = row
        self.lr = 0
        self.bt = 0
        self.layer = 0
        self.hole = 0

    def middle_of(self, edge):
        dx, dy = MIDDLES[edge]
        return (2 * self.x + (-dx if self.lr else dx), 2 * self.y + (-dy if self.bt else dy))


class Model:
    def __init__(self, w, h):
        self.w = w
        self.squares = [Square(n % w, n // w) for n in range(w * h)]
        self.cuts = []

    def joined_to(self, square, edge):
        dx, dy = MIDDLES[edge]
        for other in self.squares:
            if (other.column, other.row) == (square.column + dx, square.row + dy):
                return other
        return None

    def at(self, x, y):
        found = [square for square in self.squares if (square.x, square.y) == (x, y)]
        return sorted(found, key=lambda square: square.layer)

    def along(self, up, k, high, over, square):
        def on_side(one):
            return ((one.x if up else one.y) >= k) == bool(high)

        def goes_with(one, goer):
            if abs(one.column - goer.column) + abs(one.row - goer.row) == 1 and on_side(one):
                return True
            same_place = (one.x, one.y) == (goer.x, goer.y)
            return same_place and (one.layer > goer.layer if over else one.layer < goer.layer)

        if not on_side(square):
            return None
        going = [square]
        grown = True
        while grown:
            more = [one for one in self.squares if one not in going and any(goes_with(one, g) for g in going)]
            going.extend(more)
            grown = bool(more)
        return going

    def fold(self, up, k, high, over, number):
        if up > 1 or high > 1 or over > 1:
            return [-1]
        if number >= len(self.squares):
            return [-2]
        going = self.along(up, k, high, over, self.squares[number])
        if going is None:
            return [-2]
        if len(going) == len(self.squares):
            return [-3]
        if self.cuts:
            return [-4]
        for square in going:
            if up:
                square.x = 2 * k - 1 - square.x
                square.lr = 1 - square.lr
            else:
                square.y = 2 * k - 1 - square.y
                square.bt = 1 - square.bt
        # Far above or far below all that stays, the other way round; then numbered anew.
        for square in going:
            square.layer = (1000 if over else -1000) - square.layer
        for square in list(self.squares):
            for layer, one in enumerate(self.at(square.x, square.y)):
                one.layer = layer
        return [0, len(going)]

    def turn(self):
        heights = [len(self.at(square.x, square.y)) for square in self.squares]
        for square, height in zip(self.squares, heights):
            square.layer = height - 1 - square.layer
        for square in self.squares:
            square.x = -square.x
            square.lr = 1 - square.lr
        return [0]

    def punch(self, x, y, n, top):
        if top > 1:
            return [-1]
        there = self.at(x, y)
        if n == 0 or len(there) < n:
            return [-2]
        met = [square for square in there if (square.layer >= len(there) - n if top else square.layer < n)]
        new = sum(1 - square.hole for square in met)
        for square in met:
            square.hole = 1
        return [0, new]

    def snip(self, x, y, side):
        if side > 3:
            return [-1]
        there = self.at(x, y)
        if not there:
            return [-2]
        dx, dy = MIDDLES[SIDES[side]]
        new = 0
        for square in there:
            for edge in SIDES:
                other = self.joined_to(square, edge)
                if other is not None and square.middle_of(edge) == (2 * x + dx, 2 * y + dy):
                    join = sorted([self.squares.index(square), self.squares.index(other)])
                    if join not in self.cuts:
                        self.cuts.append(join)
                        new += 1
        return [0, new]

    def holes(self):
        return [0, len(self.squares)] + [square.hole for square in self.squares]

    def joins(self):
        found = []
        for edge in ("right", "up"):
            for n, square in enumerate(self.squares):
                other = self.joined_to(square, edge)
                if other is not None:
                    found.append([n, self.squares.index(other)])
        return found

    def cut_row(self):
        row = [int(join in self.cuts) for join in self.joins()]
        return [0, len(row)] + row

    def labels(self):
        labels = list(range(len(self.squares)))
        lowered = True
        while lowered:
            lowered = False
            for c, d in self.joins():
                if [c, d] not in self.cuts and labels[c] != labels[d]:
                    labels[c] = labels[d] = min(labels[c], labels[d])
                    lowered = True
        return labels

    def pieces(self):
        return [0, len(self.squares)] + self.labels()

    def shape_of(self, number):
        labels = self.labels()
        piece = [one for one, label in zip(self.squares, labels) if label == labels[number]]
        ways = []
        for row_sign in (1, -1):
            for column_sign in (1, -1):
                for swapped in (False, True):
                    cells = [[one.row * row_sign, one.column * column_sign, one.hole] for one in piece]
                    if swapped:
                        cells = [[column, row, hole] for row, column, hole in cells]
                    low = min(cell[0] for cell in cells)
                    left = min(cell[1] for cell in cells)
                    cells = sorted([row - low, column - left, hole] for row, column, hole in cells)
                    ways.append([number for cell in cells for number in cell])
        return sorted(ways)[0]

    def shape(self, number):
        if number >= len(self.squares):
            return [-1]
        found = self.shape_of(number)
        return [0, len(found)] + found

    def alike(self, one, other):
        if one >= len(self.squares) or other >= len(self.squares):
            return [-1]
        return [0, int(self.shape_of(one) == self.shape_of(other))]

    def through(self, x, y):
        there = self.at(x, y)
        if not there:
            return [-2]
        return [0, sum(1 - square.hole for square in there)]

    def aim(self, count, *row):
        wanted = list(row)
        if count != len(self.squares) or set(wanted) - {0, 1}:
            return [-1]
        # Where a wanted hole is missing there is no way but to punch.
        missing = [one for one, want in zip(self.squares, wanted) if want and not one.hole]
        places = sorted({(one.y, one.x) for one in missing})
        tried = copy.deepcopy(self)
        for y, x in places:
            tried.punch(x, y, len(tried.at(x, y)), 1)
        if [one.hole for one in tried.squares] != wanted:
            return [-2]
        return [0, 2 * len(places)] + [number for y, x in places for number in (x, y)]

    def faults(self):
        """What of the packet is not right by the first two of the document's conditions."""
        found = []
        for square in self.squares:
            for edge in ("right", "up"):
                other = self.joined_to(square, edge)
                if other is not None and not lie_flat(square, other, edge) and not lie_folded(square, other, edge):
                    found.append((square.column, square.row, edge))
            there = self.at(square.x, square.y)
            if [one.layer for one in there] != list(range(len(there))):
                found.append((square.x, square.y))
        return found


def lie_flat(c, d, edge):
    if (c.lr, c.bt) != (d.lr, d.bt):
        return False
    if edge == "right":
        return (d.x, d.y) == (c.x + (-1 if c.lr else 1), c.y)
    return (d.x, d.y) == (c.x, c.y + (-1 if c.bt else 1))


def lie_folded(c, d, edge):
    if (c.x, c.y) != (d.x, d.y):
        return False
    if edge == "right":
        return d.lr != c.lr and d.bt == c.bt
    return d.bt != c.bt and d.lr == c.lr


class Line:
    """The calls on one object, answered by a model."""

    def __init__(self):
        self.model = None
        self.earlier = []

    def answer(self, call):
        number, rest = call[0], call[1:]
        if number == 1:
            if min(rest) < 1 or max(rest) > 6:
                return [-1]
            self.model = Model(*rest)
            self.earlier = []
            return [0]
        if self.model is None:
            return [-9]
        if number == 6:
            if not self.earlier:
                return [-2]
            self.model = self.earlier.pop()
            return [0, len(self.earlier)]
        looks = {
            7: self.model.holes, 8: self.model.cut_row, 9: self.model.pieces, 10: self.model.shape,
            11: self.model.alike, 12: self.model.through, 13: self.model.aim}
        if number in looks:
            return looks[number](*rest)
        before = copy.deepcopy(self.model)
        answer = {2: self.model.fold, 3: self.model.turn, 4: self.model.punch, 5: self.model.snip}[number](*rest)
        if answer[0] == 0:
            self.earlier.append(before)
        return answer

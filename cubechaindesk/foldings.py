"""The calls about one block and one chain, and what they answer."""

LONGEST_SIDE = 12
FEWEST_CELLS = 2
MOST_CELLS = 12

STRAIGHT = 0
CORNER = 1

NO_BLOCK = -1
NO_CHAIN = -1
NO_CELL = -1
CELL_IS_FILLED = -4
NO_NEIGHBOUR = -2
WRONG_DIRECTION = -6
NOTHING_FILLED = -9
NO_SUCH_FOLDING = -3
ALLOWED = 0

BLOCK = 0
CHAIN = 1
FILL = 2
BACK = 3
GO = 4
FOLDINGS = 5
WHICH = 6
IS_FOLDING = 7
CHAINS = 8
SINGLE = 9

# By a call's number: how many whole numbers it has. The calls with a row have none but those of the row.
WHOLE_NUMBERS = (3, 0, 1, 0, 0, 0, 1, 0, 0, 0, 0)

FIRST_SIDES = (2, 1, 1)

# In this order the neighbours of a cell come with rising numbers, and so the foldings come in order.
DIRECTIONS = ((0, 0, -1), (0, -1, 0), (-1, 0, 0), (1, 0, 0), (0, 1, 0), (0, 0, 1))

AXIS_ORDERS = ((0, 1, 2), (0, 2, 1), (1, 0, 2), (1, 2, 0), (2, 0, 1), (2, 1, 0))


def count_cells(sides):
    return sides[0] * sides[1] * sides[2]


def spot_of(sides, cell):
    """The x, y, z of a cell's number."""
    return (cell % sides[0], cell // sides[0] % sides[1], cell // (sides[0] * sides[1]))


def cell_at(sides, spot):
    """The number of the cell x, y, z."""
    return (spot[2] * sides[1] + spot[1]) * sides[0] + spot[0]


def is_block(sides):
    if not all([1 <= side <= LONGEST_SIDE for side in sides]):
        return False
    return FEWEST_CELLS <= count_cells(sides) <= MOST_CELLS


def steps_from(sides, cell):
    """The neighbours of a cell, rising, each with the direction that leads to it."""
    spot = spot_of(sides, cell)
    steps = {}
    for direction, move in enumerate(DIRECTIONS):
        there = [spot[axis] + move[axis] for axis in range(3)]
        if all([0 <= there[axis] < sides[axis] for axis in range(3)]):
            steps[cell_at(sides, there)] = direction
    return steps


def block_steps(sides):
    return [steps_from(sides, cell) for cell in range(count_cells(sides))]


def turns_as_wanted(steps, inner, row, cell):
    """Whether the last cube of row lets the chain go on to cell, a neighbour of it."""
    if len(row) < 2:
        # The chain's first cube is neither straight nor a corner.
        return True
    came = steps[row[-2]][row[-1]]
    goes = steps[row[-1]][cell]
    return (came == goes) == (inner[len(row) - 2] == STRAIGHT)


def find_rows(steps):
    """All rows of all cells, each the neighbour of the one ahead of it, in order."""
    rows = [[cell] for cell in range(len(steps))]
    for length in range(2, len(steps) + 1):
        longer = []
        for row in rows:
            longer.extend([row + [cell] for cell in steps[row[-1]] if cell not in row])
        rows = longer
    return rows


def inner_cubes(steps, row):
    """The inner cubes of the one chain that has this row as a folding."""
    ways = [steps[row[place]][row[place + 1]] for place in range(len(row) - 1)]
    return tuple([STRAIGHT if ways[place] == ways[place + 1] else CORNER for place in range(len(ways) - 1)])


def foldings_by_chain(steps):
    """For each chain that has a folding: all its foldings, in order."""
    by_chain = {}
    for row in find_rows(steps):
        inner = inner_cubes(steps, row)
        if inner not in by_chain:
            by_chain[inner] = []
        by_chain[inner].append(row)
    return by_chain


def held_as(sides, order, ends):
    """Where each cell comes to lie if the axes are exchanged in this order and some told from the other end."""
    cells = []
    for cell in range(count_cells(sides)):
        spot = spot_of(sides, cell)
        there = [spot[axis] for axis in order]
        for axis in range(3):
            if (ends >> axis) & 1 == 1:
                there[axis] = sides[axis] - 1 - there[axis]
        cells.append(cell_at(sides, there))
    return tuple(cells)


def ways_to_hold(sides):
    """Each way to hold the block, once, as the row of where its cells come to lie."""
    ways = []
    for order in AXIS_ORDERS:
        if all([sides[order[axis]] == sides[axis] for axis in range(3)]):
            # Each bit of ends is for one axis: whether it is told from its other end.
            ways.extend([held_as(sides, order, ends) for ends in range(8)])
    # An axis one cell long gives the same cells from both ends, so equal ways are left out.
    return sorted(set(ways))


def count_looks(sides, filled, how_many):
    """How many looks that many foldings have which are all those with this beginning.

    Of two such foldings that look alike, the one comes of the other by a way to hold the block that
    leaves each filled cell where it is. As a folding has all cells, no two ways take it to the same
    folding: so each look has as many foldings as there are such ways.
    """
    keeping = [way for way in ways_to_hold(sides) if all([way[cell] == cell for cell in filled])]
    return how_many // len(keeping)


class Desk:
    """One block, one chain, and the cells filled so far."""

    def __init__(self):
        self.searched = {}
        self.take_block(FIRST_SIDES)

    def take_block(self, sides):
        self.sides = sides
        self.steps = block_steps(sides)
        if sides not in self.searched:
            # A block may come back often among the calls, but need be searched only once.
            self.searched[sides] = foldings_by_chain(self.steps)
        self.by_chain = self.searched[sides]
        self.take_chain([CORNER] * (len(self.steps) - 2))

    def take_chain(self, inner):
        self.inner = inner
        self.filled = []
        self.all_rows = self.by_chain.get(tuple(inner), [])

    def rows_begun(self):
        """The foldings that begin as it's filled, in order."""
        length = len(self.filled)
        return [row for row in self.all_rows if row[:length] == self.filled]

    def block(self, sides):
        if not is_block(sides):
            return [NO_BLOCK]
        self.take_block(sides)
        return [len(self.steps)]

    def chain(self, inner):
        if len(inner) != len(self.steps) - 2:
            return [NO_CHAIN]
        if not all([cube in (STRAIGHT, CORNER) for cube in inner]):
            return [NO_CHAIN]
        self.take_chain(inner)
        return [inner.count(CORNER)]

    def judge_next(self, row, cell):
        """Whether the cell may come behind a row that is right: the refusal that's told first, or ALLOWED."""
        if cell >= len(self.steps):
            return NO_CELL
        if cell in row:
            return CELL_IS_FILLED
        if len(row) == 0:
            return ALLOWED
        if cell not in self.steps[row[-1]]:
            return NO_NEIGHBOUR
        if not turns_as_wanted(self.steps, self.inner, row, cell):
            return WRONG_DIRECTION
        return ALLOWED

    def fill(self, cell):
        judged = self.judge_next(self.filled, cell)
        if judged != ALLOWED:
            return [judged]
        self.filled.append(cell)
        return [len(self.rows_begun())]

    def back(self):
        if len(self.filled) == 0:
            return [NOTHING_FILLED]
        self.filled.pop()
        return [len(self.rows_begun())]

    def go(self):
        place = len(self.filled)
        if place == len(self.steps):
            return [0]
        cells = sorted(set([row[place] for row in self.rows_begun()]))
        return [len(cells)] + cells

    def foldings(self):
        how_many = len(self.rows_begun())
        return [how_many, count_looks(self.sides, self.filled, how_many)]

    def which(self, k):
        rows = self.rows_begun()
        if k >= len(rows):
            return [NO_SUCH_FOLDING]
        return [0] + rows[k]

    def is_folding(self, cells):
        looked_at = cells[:len(self.steps)]
        for place, cell in enumerate(looked_at):
            if self.judge_next(looked_at[:place], cell) != ALLOWED:
                return [0, place]
        if len(looked_at) < len(self.steps):
            return [0, len(looked_at)]
        return [1]

    def chains(self):
        return [len(self.by_chain), sum([len(rows) for rows in self.by_chain.values()])]

    def single(self):
        # With nothing filled, each look has as many foldings as there are ways to hold the block (count_looks).
        alike = len(ways_to_hold(self.sides))
        found = [inner for inner in sorted(self.by_chain) if len(self.by_chain[inner]) == alike]
        if len(found) == 0:
            return [0]
        return [len(found)] + list(found[0])

    def corners(self):
        # Of those with as few corners, the lowest row is the first one.
        fewest = min([(inner.count(CORNER), inner) for inner in self.by_chain])
        return [fewest[0]] + list(fewest[1])


def answer_call(desk, number, given):
    """What the call answers. Given are its whole numbers, or the numbers of its row."""
    if number == BLOCK:
        return desk.block(tuple(given))
    if number == CHAIN:
        return desk.chain(given)
    if number == FILL:
        return desk.fill(given[0])
    if number == BACK:
        return desk.back()
    if number == GO:
        return desk.go()
    if number == FOLDINGS:
        return desk.foldings()
    if number == WHICH:
        return desk.which(given[0])
    if number == IS_FOLDING:
        return desk.is_folding(given)
    if number == CHAINS:
        return desk.chains()
    if number == SINGLE:
        return desk.single()
    return desk.corners()


def answers(calls):
    """For each call, in order: how many numbers are answered, then these."""
    desk = Desk()
    answered = []
    place = 0
    while place < len(calls):
        number = calls[place]
        start = place + 1
        length = WHOLE_NUMBERS[number]
        if number == CHAIN or number == IS_FOLDING:
            length = calls[start]
            start = start + 1
        answer = answer_call(desk, number, calls[start:start + length])
        answered.append(len(answer))
        answered.extend(answer)
        place = start + length
    return answered

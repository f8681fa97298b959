"""What the tests share: asking the program, and a plain search written apart from it.

The plain search walks over x, y, z and takes every way through all cells, whatever the chain;
only then does it look which chain that was. Looks are told by trying every way to hold the block.
"""

import functools
import itertools

from cubechaindesk.foldings import answers

BLOCK, CHAIN, FILL, BACK, GO, FOLDINGS, WHICH, IS, CHAINS, SINGLE, CORNERS = range(11)
HUGE = 4294967295


def block(a, b, c):
    return [BLOCK, a, b, c]


def chain(*inner):
    return [CHAIN, len(inner), *inner]


def fill(cell):
    return [FILL, cell]


def back():
    return [BACK]


def go():
    return [GO]


def foldings():
    return [FOLDINGS]


def parted(answered):
    """The answers of each call as a list of its own."""
    parts = []
    place = 0
    while place < len(answered):
        size = answered[place]
        part = answered[place + 1:place + 1 + size]
        if len(part) != size:
            raise AssertionError(f"{size} numbers told, {len(part)} there")
        parts.append(part)
        place += 1 + size
    return parts


def ask(*calls):
    """What each of these calls answers, handed in as one list."""
    return parted(answers([number for call in calls for number in call]))


def last(*calls):
    return ask(*calls)[-1]


def all_blocks():
    sides = range(1, 13)
    return [s for s in itertools.product(sides, sides, sides) if 2 <= s[0] * s[1] * s[2] <= 12]


def number_of(sides, spot):
    a, b, c = sides
    x, y, z = spot
    return (z * b + y) * a + x


def apart(one, other):
    return tuple(q - p for p, q in zip(one, other))


def extend_path(path, left, found):
    if not left:
        found.append(tuple(path))
        return
    for spot in sorted(left):
        if not path or sum(abs(d) for d in apart(path[-1], spot)) == 1:
            extend_path(path + [spot], left - {spot}, found)


@functools.lru_cache(maxsize=None)
def all_paths(sides):
    """Every way through all cells, as x, y, z."""
    found = []
    extend_path([], frozenset(itertools.product(*(range(side) for side in sides))), found)
    return tuple(found)


def inner_cubes(path):
    ways = [apart(p, q) for p, q in zip(path, path[1:])]
    return tuple(0 if came == goes else 1 for came, goes in zip(ways, ways[1:]))


@functools.lru_cache(maxsize=None)
def paths_by_chain(sides):
    by_chain = {}
    for path in all_paths(sides):
        by_chain.setdefault(inner_cubes(path), []).append(path)
    return by_chain


def hold(sides, order, flips, spot):
    there = [spot[axis] for axis in order]
    return tuple(side - 1 - t if flip else t for side, flip, t in zip(sides, flips, there))


@functools.lru_cache(maxsize=None)
def look_of(sides, path):
    """The lowest of all that look like it."""
    images = []
    for order in itertools.permutations(range(3)):
        if tuple(sides[axis] for axis in order) == sides:
            for flips in itertools.product((False, True), repeat=3):
                images.append(tuple(hold(sides, order, flips, spot) for spot in path))
    return min(images)


class PlainDesk:
    """The same calls, answered by the plain search."""

    def __init__(self):
        self.sides = (2, 1, 1)
        self.inner = ()
        self.filled = []

    def size(self):
        return self.sides[0] * self.sides[1] * self.sides[2]

    def begun(self):
        """The foldings that begin as it's filled: their cells' numbers, and their paths."""
        found = []
        for path in paths_by_chain(self.sides).get(self.inner, []):
            row = [number_of(self.sides, spot) for spot in path]
            if row[:len(self.filled)] == self.filled:
                found.append((row, path))
        return found

    def block(self, a, b, c):
        if any(side not in range(1, 13) for side in (a, b, c)) or a * b * c not in range(2, 13):
            return [-1]
        self.sides = (a, b, c)
        self.inner = (1,) * (a * b * c - 2)
        self.filled = []
        return [a * b * c]

    def chain(self, *inner):
        if len(inner) != self.size() - 2 or any(cube > 1 for cube in inner):
            return [-1]
        self.inner = tuple(inner)
        self.filled = []
        return [sum(inner)]

    def fill(self, cell):
        spots = {number_of(self.sides, spot): spot
                 for spot in itertools.product(*(range(side) for side in self.sides))}
        if cell not in spots:
            return [-1]
        if cell in self.filled:
            return [-4]
        path = [spots[c] for c in self.filled + [cell]]
        if len(path) > 1 and sum(abs(d) for d in apart(path[-2], path[-1])) != 1:
            return [-2]
        if len(path) > 2 and inner_cubes(path)[-1] != self.inner[len(path) - 3]:
            return [-6]
        self.filled.append(cell)
        return [len(self.begun())]

    def back(self):
        if not self.filled:
            return [-9]
        self.filled = self.filled[:-1]
        return [len(self.begun())]

    def go(self):
        place = len(self.filled)
        cells = sorted({row[place] for row, path in self.begun() if place < len(row)})
        return [len(cells)] + cells

    def foldings(self):
        begun = self.begun()
        return [len(begun), len({look_of(self.sides, path) for row, path in begun})]

    def answer(self, call):
        if call[0] == BLOCK:
            return self.block(*call[1:])
        if call[0] == CHAIN:
            return self.chain(*call[2:])
        if call[0] == FILL:
            return self.fill(call[1])
        return {BACK: self.back, GO: self.go, FOLDINGS: self.foldings}[call[0]]()


def plain(*calls):
    """What each of these calls answers by the plain search."""
    desk = PlainDesk()
    return [desk.answer(call) for call in calls]

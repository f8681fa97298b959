"""What the tests share: asking the program, and a plain search written apart from it.

The plain search walks over x, y, z and takes every way through all cells, whatever the chain;
only then does it look which chain that was. Looks are told by trying every way to hold the block.
"""

import functools
import itertools

from cubechaindesk.foldings import answers

BLOCK, CHAIN, FILL, BACK, GO, FOLDINGS, WHICH, IS, CHAINS, SINGLE, CORNERS = range(11)
HUGE = 4294967295


def block(a, b, c):
    return [BLOCK, a, b, c]


def chain(*inner):
    return [CHAIN, len(inner), *inner]


def fill(cell):
    return [FILL, cell]


def back():
    return [BACK]


def go():
    return [GO]


def foldings():
    return [FOLDINGS]


def which(k):
    return [WHICH, k]


def is_folding(*cells):
    return [IS, len(cells), *cells]


def chains():
    return [CHAINS]


def single():
    return [SINGLE]


def corners():
    return [CORNERS]


def parted(answered):
    """The answers of each call as a list of its own."""
    parts = []
    place = 0
    while place < len(answered):
        size = answered[place]
        part = answered[place + 1:place + 1 + size]
        if len(part) != size:
            raise AssertionError(f"{size} numbers told, {len(part)} there")
        parts.append(part)
        place += 1 + size
    return parts


def ask(*calls):
    """What each of these calls answers, handed in as one list."""
    return parted(answers([number for call in calls for number in call]))


def last(*calls):
    return ask(*calls)[-1]


def in_parts(ahead, calls):
    """The calls in parts that make a list of at most 40 calls each behind those ahead."""
    most = 40 - len(ahead)
    return [calls[start:start + most] for start in range(0, len(calls), most)]


def ask_each(ahead, calls):
    """What each of many calls answers, in as many lists as they need, behind those ahead in each."""
    return [answer for part in in_parts(ahead, calls) for answer in ask(*ahead, *part)[len(ahead):]]


def all_blocks():
    sides = range(1, 13)
    return [s for s in itertools.product(sides, sides, sides) if 2 <= s[0] * s[1] * s[2] <= 12]


def size_of(sides):
    return sides[0] * sides[1] * sides[2]


def number_of(sides, spot):
    a, b, c = sides
    x, y, z = spot
    return (z * b + y) * a + x


def apart(one, other):
    return tuple(q - p for p, q in zip(one, other))


def extend_path(path, left, found):
    if not left:
        found.append(tuple(path))
        return
    for spot in sorted(left):
        if not path or sum(abs(d) for d in apart(path[-1], spot)) == 1:
            extend_path(path + [spot], left - {spot}, found)


@functools.lru_cache(maxsize=None)
def all_paths(sides):
    """Every way through all cells, as x, y, z."""
    found = []
    extend_path([], frozenset(itertools.product(*(range(side) for side in sides))), found)
    return tuple(found)


def inner_cubes(path):
    ways = [apart(p, q) for p, q in zip(path, path[1:])]
    return tuple(0 if came == goes else 1 for came, goes in zip(ways, ways[1:]))


@functools.lru_cache(maxsize=None)
def paths_by_chain(sides):
    by_chain = {}
    for path in all_paths(sides):
        by_chain.setdefault(inner_cubes(path), []).append(path)
    return by_chain


def hold(sides, order, flips, spot):
    there = [spot[axis] for axis in order]
    return tuple(side - 1 - t if flip else t for side, flip, t in zip(sides, flips, there))


@functools.lru_cache(maxsize=None)
def look_of(sides, path):
    """The lowest of all that look like it."""
    images = []
    for order in itertools.permutations(range(3)):
        if tuple(sides[axis] for axis in order) == sides:
            for flips in itertools.product((False, True), repeat=3):
                images.append(tuple(hold(sides, order, flips, spot) for spot in path))
    return min(images)


@functools.lru_cache(maxsize=None)
def single_chains(sides):
    """The chains of which all foldings look alike, in order."""
    return sorted(inner for inner, paths in paths_by_chain(sides).items()
                  if len({look_of(sides, path) for path in paths}) == 1)


def fewest_corners(sides):
    """The chains with the fewest corners, in order."""
    least = min(sum(inner) for inner in paths_by_chain(sides))
    return sorted(inner for inner in paths_by_chain(sides) if sum(inner) == least)


class PlainDesk:
    """The same calls, answered by the plain search."""

    def __init__(self):
        self.sides = (2, 1, 1)
        self.inner = ()
        self.filled = []

    def size(self):
        return size_of(self.sides)

    def spots(self):
        return {number_of(self.sides, spot): spot
                for spot in itertools.product(*(range(side) for side in self.sides))}

    def begun(self):
        """The foldings that begin as it's filled: their cells' numbers, and their paths."""
        found = []
        for path in paths_by_chain(self.sides).get(self.inner, []):
            row = [number_of(self.sides, spot) for spot in path]
            if row[:len(self.filled)] == self.filled:
                found.append((row, path))
        return found

    def block(self, a, b, c):
        if any(side not in range(1, 13) for side in (a, b, c)) or a * b * c not in range(2, 13):
            return [-1]
        self.sides = (a, b, c)
        self.inner = (1,) * (a * b * c - 2)
        self.filled = []
        return [a * b * c]

    def chain(self, *inner):
        if len(inner) != self.size() - 2 or any(cube > 1 for cube in inner):
            return [-1]
        self.inner = tuple(inner)
        self.filled = []
        return [sum(inner)]

    def fill(self, cell):
        spots = self.spots()
        if cell not in spots:
            return [-1]
        if cell in self.filled:
            return [-4]
        path = [spots[c] for c in self.filled + [cell]]
        if len(path) > 1 and sum(abs(d) for d in apart(path[-2], path[-1])) != 1:
            return [-2]
        if len(path) > 2 and inner_cubes(path)[-1] != self.inner[len(path) - 3]:
            return [-6]
        self.filled.append(cell)
        return [len(self.begun())]

    def back(self):
        if not self.filled:
            return [-9]
        self.filled = self.filled[:-1]
        return [len(self.begun())]

    def go(self):
        place = len(self.filled)
        cells = sorted({row[place] for row, path in self.begun() if place < len(row)})
        return [len(cells)] + cells

    def foldings(self):
        begun = self.begun()
        return [len(begun), len({look_of(self.sides, path) for row, path in begun})]

    def which(self, k):
        rows = sorted(row for row, path in self.begun())
        return [0] + rows[k] if k < len(rows) else [-3]

    def begins_right(self, cells):
        spots = self.spots()
        if not set(cells) <= set(spots) or len(set(cells)) < len(cells):
            return False
        path = [spots[cell] for cell in cells]
        if any(sum(abs(d) for d in apart(p, q)) != 1 for p, q in zip(path, path[1:])):
            return False
        turns = inner_cubes(path)
        return turns == self.inner[:len(turns)]

    def is_folding(self, *cells):
        for many in range(1, self.size() + 1):
            if many > len(cells) or not self.begins_right(cells[:many]):
                return [0, many - 1]
        return [1]

    def chains(self):
        return [len(paths_by_chain(self.sides)), len(all_paths(self.sides))]

    def single(self):
        found = single_chains(self.sides)
        return [len(found)] + [cube for inner in found[:1] for cube in inner]

    def corners(self):
        inner = fewest_corners(self.sides)[0]
        return [sum(inner), *inner]

    def answer(self, call):
        number, given = call[0], call[1:]
        if number in (CHAIN, IS):
            given = given[1:]
        return (self.block, self.chain, self.fill, self.back, self.go, self.foldings, self.which,
                self.is_folding, self.chains, self.single, self.corners)[number](*given)


def plain(*calls):
    """What each of these calls answers by the plain search."""
    desk = PlainDesk()
    return [desk.answer(call) for call in calls]

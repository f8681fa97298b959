"""The call foldings, held against the plain search."""

import itertools
import unittest

from helper import (all_blocks, all_paths, apart, ask, back, block, chain, fill, foldings, go, last,
                    number_of, paths_by_chain, plain)

BLOCKS = (
    (2, 2, 2),
    (2, 2, 3), (2, 3, 2), (3, 2, 2),
    (3, 2, 1), (1, 2, 3), (2, 1, 4), (1, 4, 3), (6, 1, 2),
    (2, 2, 1), (1, 3, 3), (3, 1, 3), (3, 3, 1),
    (12, 1, 1), (1, 12, 1), (1, 1, 12), (3, 1, 1), (1, 1, 2),
)


class PlainSearch(unittest.TestCase):
    def test_it_finds_what_trying_all_rows_finds(self):
        for sides in ((2, 2, 2), (2, 3, 1), (1, 7, 1), (2, 2, 1)):
            spots = itertools.product(*(range(side) for side in sides))
            rows = [row for row in itertools.permutations(sorted(spots))
                    if all(sum(abs(d) for d in apart(p, q)) == 1 for p, q in zip(row, row[1:]))]
            self.assertEqual(sorted(all_paths(sides)), sorted(rows))


class ByHand(unittest.TestCase):
    def test_at_the_very_beginning(self):
        self.assertEqual(ask(foldings()), [[2, 1]])

    def test_lines(self):
        self.assertEqual(last(block(12, 1, 1), foldings()), [0, 0])
        self.assertEqual(last(block(12, 1, 1), chain(*[0] * 10), foldings()), [2, 1])
        self.assertEqual(last(block(1, 1, 3), chain(0), foldings()), [2, 1])

    def test_squares_and_cubes(self):
        self.assertEqual(last(block(2, 2, 1), foldings()), [8, 1])
        self.assertEqual(last(block(2, 2, 2), foldings()), [144, 3])

    def test_sides_of_other_lengths_are_not_exchanged(self):
        self.assertEqual(last(block(3, 2, 1), chain(0, 1, 1, 0), foldings()), [4, 1])

    def test_with_a_beginning(self):
        # The two ways round from 0 look alike; with the cell 1 filled, too, one is left.
        self.assertEqual(last(block(2, 2, 1), fill(0), foldings()), [2, 1])
        self.assertEqual(last(block(2, 2, 1), fill(0), fill(1), foldings()), [1, 1])
        self.assertEqual(last(block(2, 2, 2), fill(0), foldings()), [18, 3])
        self.assertEqual(last(block(2, 2, 2), fill(0), fill(1), foldings()), [6, 3])
        self.assertEqual(last(block(2, 2, 2), fill(0), fill(1), fill(3), foldings()), [3, 3])

    def test_none_begins_so(self):
        self.assertEqual(last(block(3, 1, 1), chain(0), fill(1), foldings()), [0, 0])

    def test_all_filled(self):
        self.assertEqual(last(fill(1), fill(0), foldings()), [1, 1])

    def test_it_changes_nothing(self):
        self.assertEqual(ask(block(2, 2, 1), fill(0), foldings(), foldings(), go(), back())[2:],
                         [[2, 1], [2, 1], [2, 1, 2], [8]])


class AgainstThePlainSearch(unittest.TestCase):
    def test_every_block_with_all_corners(self):
        for sides in all_blocks():
            calls = (block(*sides), foldings())
            self.assertEqual(ask(*calls), plain(*calls), sides)

    def test_every_chain_that_has_a_folding(self):
        for sides in BLOCKS:
            for inner in paths_by_chain(sides):
                calls = (block(*sides), chain(*inner), foldings())
                self.assertEqual(ask(*calls), plain(*calls), (sides, inner))

    def test_every_chain_of_some_blocks(self):
        for sides in ((2, 2, 2), (3, 1, 3), (4, 2, 1), (1, 1, 5)):
            size = sides[0] * sides[1] * sides[2]
            for inner in itertools.product((0, 1), repeat=size - 2):
                calls = (block(*sides), chain(*inner), foldings())
                self.assertEqual(ask(*calls), plain(*calls), (sides, inner))

    def test_every_first_cell(self):
        for sides in BLOCKS:
            for inner in list(paths_by_chain(sides))[:20]:
                calls = [block(*sides), chain(*inner)]
                for cell in range(len(inner) + 2):
                    calls.extend((fill(cell), foldings(), back()))
                self.assertEqual(ask(*calls), plain(*calls), (sides, inner))

    def test_along_a_folding(self):
        for sides in BLOCKS:
            for inner, paths in list(paths_by_chain(sides).items())[::7]:
                calls = [block(*sides), chain(*inner)]
                for spot in paths[len(paths) // 2]:
                    calls.extend((fill(number_of(sides, spot)), go(), foldings()))
                self.assertEqual(ask(*calls), plain(*calls), (sides, inner))


if __name__ == "__main__":
    unittest.main()

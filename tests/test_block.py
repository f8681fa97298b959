"""Promise 1: block."""

import itertools
import unittest

from helper import HUGE, all_blocks, ask, back, block, chain, fill, foldings, go, last, plain


class BlockAnswers(unittest.TestCase):
    def test_how_many_cells(self):
        self.assertEqual(ask(block(2, 2, 2)), [[8]])
        self.assertEqual(ask(block(3, 2, 2)), [[12]])
        self.assertEqual(ask(block(1, 1, 2)), [[2]])

    def test_every_block(self):
        for sides in all_blocks():
            self.assertEqual(ask(block(*sides)), [[sides[0] * sides[1] * sides[2]]], sides)

    def test_longest_sides(self):
        for sides in ((12, 1, 1), (1, 12, 1), (1, 1, 12)):
            self.assertEqual(ask(block(*sides)), [[12]])

    def test_cells_are_numbered_x_first_then_y_then_z(self):
        neighbours = {0: [1, 3, 6], 7: [1, 6, 8, 10]}
        for cell in neighbours:
            moves = [last(block(3, 2, 2), fill(cell), fill(other)) for other in range(12)]
            self.assertEqual([c for c in range(12) if moves[c][0] >= 0], neighbours[cell])


class BlockBegins(unittest.TestCase):
    def test_chain_is_all_corners(self):
        for sides in ((2, 2, 2), (3, 1, 1), (3, 2, 1), (3, 2, 2)):
            size = sides[0] * sides[1] * sides[2]
            corners = last(block(*sides), chain(*[1] * (size - 2)), foldings())
            self.assertEqual(last(block(*sides), foldings()), corners)
        self.assertEqual(last(block(3, 1, 1), foldings()), [0, 0])

    def test_chain_of_an_earlier_block_is_gone(self):
        calls = (block(3, 1, 1), chain(0), foldings(), block(3, 1, 1), foldings())
        self.assertEqual(ask(*calls), [[3], [0], [2, 1], [3], [0, 0]])

    def test_nothing_is_filled(self):
        self.assertEqual(ask(fill(0), block(2, 2, 1), back()), [[1], [4], [-9]])
        self.assertEqual(last(fill(0), block(2, 2, 1), foldings()), [8, 1])
        self.assertEqual(last(block(2, 2, 1), fill(0), block(2, 2, 1), fill(0)), [2])


class BlockRefuses(unittest.TestCase):
    def test_a_side_that_is_none(self):
        for wrong in (0, 13, 14, HUGE):
            for place in range(3):
                sides = [1, 1, 1]
                sides[(place + 1) % 3] = 2
                sides[place] = wrong
                self.assertEqual(ask(block(*sides)), [[-1]], sides)

    def test_nought_beside_any_side(self):
        for sides in itertools.product((0, 2), (0, 2), (0, 13)):
            self.assertEqual(ask(block(*sides)), [[-1]], sides)

    def test_too_few_cells(self):
        self.assertEqual(ask(block(1, 1, 1)), [[-1]])

    def test_too_many_cells(self):
        for sides in ((7, 2, 1), (2, 7, 1), (1, 2, 7), (5, 3, 1), (4, 4, 1), (3, 3, 2), (3, 3, 3), (12, 12, 12),
                      (12, 2, 1), (13, 1, 1), (1, 13, 1), (1, 1, 13)):
            self.assertEqual(ask(block(*sides)), [[-1]], sides)

    def test_every_block_up_to_14(self):
        for sides in itertools.product(range(15), repeat=3):
            call = block(*sides)
            self.assertEqual(ask(call), plain(call), sides)

    def test_all_is_as_it_was(self):
        for wrong in ((0, 2, 2), (2, 13, 1), (HUGE, 1, 1), (1, 1, 1), (13, 1, 1), (4, 4, 1), (2, 2, 0)):
            before = (block(3, 2, 1), chain(0, 1, 1, 0), fill(0))
            after = (go(), foldings(), fill(1), back(), back(), back())
            expected = ask(*before) + [[-1]] + ask(*before, *after)[3:]
            self.assertEqual(ask(*before, block(*wrong), *after), expected)
            self.assertEqual(ask(block(*wrong), foldings()), [[-1], [2, 1]])


if __name__ == "__main__":
    unittest.main()

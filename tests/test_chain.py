"""Promise 2: chain."""

import itertools
import unittest

from helper import HUGE, ask, back, block, chain, fill, foldings, go, last


class ChainAnswers(unittest.TestCase):
    def test_how_many_corners(self):
        self.assertEqual(ask(block(3, 2, 1), chain(0, 1, 1, 0)), [[6], [2]])
        self.assertEqual(ask(block(12, 1, 1), chain(*[0] * 10)), [[12], [0]])
        self.assertEqual(ask(block(12, 1, 1), chain(*[1] * 10)), [[12], [10]])

    def test_every_chain_of_six_cubes(self):
        for inner in itertools.product((0, 1), repeat=4):
            self.assertEqual(last(block(1, 3, 2), chain(*inner)), [sum(inner)], inner)

    def test_it_is_the_chain_now(self):
        self.assertEqual(last(block(3, 1, 1), chain(0), foldings()), [2, 1])
        self.assertEqual(last(block(3, 1, 1), chain(0), chain(1), foldings()), [0, 0])
        self.assertEqual(last(block(3, 2, 1), chain(0, 1, 1, 0), foldings()), [4, 1])

    def test_which_cube_is_which(self):
        # From 0 straight on, round a corner twice, straight on: the other way about it doesn't begin so.
        self.assertEqual(last(block(3, 2, 1), chain(0, 1, 1, 0), fill(0), fill(1), fill(2)), [1])
        self.assertEqual(last(block(3, 2, 1), chain(1, 1, 0, 1), fill(0), fill(1), fill(2)), [-6])

    def test_nothing_is_filled(self):
        self.assertEqual(last(block(3, 1, 1), chain(0), fill(0), chain(0), back()), [-9])
        self.assertEqual(last(block(3, 1, 1), chain(0), fill(0), chain(0), foldings()), [2, 1])

    def test_two_cells_have_no_inner_cubes(self):
        self.assertEqual(ask(chain(), foldings()), [[0], [2, 1]])
        for sides in ((2, 1, 1), (1, 2, 1), (1, 1, 2)):
            self.assertEqual(ask(block(*sides), chain(), foldings()), [[2], [0], [2, 1]])
        self.assertEqual(ask(fill(0), chain(), back()), [[1], [0], [-9]])


class ChainRefuses(unittest.TestCase):
    def test_fewer_or_more(self):
        for sides, size in (((2, 1, 1), 2), ((3, 1, 1), 3), ((2, 2, 2), 8), ((3, 2, 2), 12)):
            for many in range(15):
                expected = [many] if many == size - 2 else [-1]
                self.assertEqual(last(block(*sides), chain(*[1] * many)), expected, (sides, many))

    def test_neither_straight_nor_corner(self):
        for wrong in (2, 3, 256, HUGE):
            for place in range(4):
                inner = [0, 1, 1, 0]
                inner[place] = wrong
                self.assertEqual(last(block(3, 2, 1), chain(*inner)), [-1], inner)

    def test_both_faults(self):
        self.assertEqual(last(block(3, 2, 1), chain(2)), [-1])
        self.assertEqual(last(chain(2)), [-1])

    def test_all_is_as_it_was(self):
        before = (block(3, 2, 1), chain(0, 1, 1, 0), fill(0), fill(1))
        after = (go(), foldings(), back(), back(), foldings(), back())
        for wrong in ((), (0,), (0, 1, 1), (1, 1, 1, 1, 1), (0, 1, 1, 2), (HUGE, 1, 1, 1), (1,) * 14):
            expected = ask(*before) + [[-1]] + ask(*before, *after)[4:]
            self.assertEqual(ask(*before, chain(*wrong), *after), expected, wrong)


if __name__ == "__main__":
    unittest.main()

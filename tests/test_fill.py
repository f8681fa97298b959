"""Promise 3: fill."""

import unittest

from helper import HUGE, all_blocks, ask, back, block, chain, fill, foldings, go, last

ROUND = (block(3, 2, 1), chain(0, 1, 1, 0))


class FillAnswers(unittest.TestCase):
    def test_how_many_begin_so(self):
        self.assertEqual(ask(fill(0), fill(1)), [[1], [1]])
        self.assertEqual(ask(fill(1), fill(0)), [[1], [1]])
        self.assertEqual(ask(block(2, 2, 1), fill(0), fill(1), fill(3), fill(2)), [[4], [2], [1], [1], [1]])
        self.assertEqual(ask(block(2, 2, 2), fill(0), fill(1)), [[8], [18], [6]])

    def test_none_may_begin_so(self):
        self.assertEqual(ask(*ROUND, fill(1)), [[6], [2], [0]])
        self.assertEqual(ask(block(3, 1, 1), chain(0), fill(1)), [[3], [0], [0]])
        self.assertEqual(ask(block(3, 1, 1), fill(0), fill(1)), [[3], [0], [0]])

    def test_it_is_filled_though_none_begins_so(self):
        self.assertEqual(ask(*ROUND, fill(1), fill(1), fill(4), back(), back(), back())[2:],
                         [[0], [-4], [0], [0], [4], [-9]])

    def test_all_cells(self):
        self.assertEqual(ask(*ROUND, *[fill(cell) for cell in (0, 1, 2, 5, 4, 3)])[2:], [[1]] * 6)

    def test_every_cell_can_be_the_first(self):
        for sides in all_blocks():
            for cell in range(sides[0] * sides[1] * sides[2]):
                self.assertGreaterEqual(last(block(*sides), fill(cell))[0], 0)

    def test_second_cell_may_lie_in_any_direction(self):
        for inner in ((0,) * 10, (1,) * 10):
            for cell in (1, 3, 6):
                self.assertGreaterEqual(last(block(3, 2, 2), chain(*inner), fill(0), fill(cell))[0], 0)


class FillRefuses(unittest.TestCase):
    def test_no_such_cell(self):
        self.assertEqual(ask(fill(1), fill(2), fill(HUGE)), [[1], [-1], [-1]])
        for sides in all_blocks():
            size = sides[0] * sides[1] * sides[2]
            for cell in (size, size + 1, 12, 13, HUGE):
                self.assertEqual(last(block(*sides), fill(cell)), [-1])

    def test_filled(self):
        self.assertEqual(ask(*ROUND, fill(0), fill(0), fill(1), fill(1), fill(0))[2:], [[1], [-4], [1], [-4], [-4]])

    def test_no_neighbour(self):
        for cell in (2, 4, 5):
            self.assertEqual(last(*ROUND, fill(0), fill(cell)), [-2], cell)

    def test_no_neighbour_though_the_numbers_follow(self):
        # The cell 2 ends a row of cells, the cell 3 begins the next one.
        self.assertEqual(last(*ROUND, fill(2), fill(3)), [-2])
        self.assertEqual(last(*ROUND, fill(3), fill(2)), [-2])
        self.assertEqual(last(block(1, 3, 2), fill(2), fill(3)), [-2])
        self.assertEqual(last(block(3, 2, 2), fill(5), fill(6)), [-2])

    def test_two_cells_on_is_no_neighbour(self):
        self.assertEqual(last(block(3, 1, 1), chain(0), fill(0), fill(2)), [-2])

    def test_it_goes_by_the_cell_filled_last(self):
        self.assertEqual(last(*ROUND, fill(0), fill(1), fill(3)), [-2])

    def test_direction_of_a_straight_cube(self):
        self.assertEqual(last(*ROUND, fill(0), fill(1), fill(4)), [-6])
        self.assertEqual(last(*ROUND, fill(0), fill(3), fill(4)), [-6])

    def test_direction_of_a_corner(self):
        self.assertEqual(last(block(3, 2, 1), fill(0), fill(1), fill(2)), [-6])
        self.assertEqual(last(block(3, 2, 1), fill(0), fill(1), fill(4)), [0])
        self.assertEqual(last(block(3, 2, 1), fill(0), fill(3), fill(4)), [1])

    def test_each_place_has_its_own_cube(self):
        beginning = (*ROUND, fill(0), fill(1), fill(2), fill(5), fill(4))
        self.assertEqual(last(*beginning, fill(3)), [1])
        self.assertEqual(last(block(3, 2, 1), chain(0, 1, 1, 1), *beginning[2:], fill(3)), [-6])
        self.assertEqual(last(block(3, 2, 1), chain(0, 1, 0, 0), *beginning[2:]), [-6])

    def test_filled_stands_ahead_of_neighbour_and_direction(self):
        straight = (block(2, 2, 1), chain(0, 0))
        self.assertEqual(last(*straight, fill(0), fill(1), fill(0)), [-4])
        self.assertEqual(last(*ROUND, fill(0), fill(1), fill(2), fill(0)), [-4])
        self.assertEqual(last(*ROUND, fill(0), fill(1), fill(2), fill(5), fill(4), fill(1)), [-4])

    def test_neighbour_stands_ahead_of_direction(self):
        self.assertEqual(last(*ROUND, fill(0), fill(1), fill(5)), [-2])
        self.assertEqual(last(*ROUND, fill(0), fill(1), fill(3)), [-2])

    def test_no_such_cell_stands_ahead_of_all(self):
        self.assertEqual(last(*ROUND, fill(0), fill(6)), [-1])
        self.assertEqual(last(*ROUND, fill(2), fill(1), fill(6)), [-1])

    def test_all_are_filled(self):
        full = (*ROUND, *[fill(cell) for cell in (0, 1, 2, 5, 4, 3)])
        for cell in range(6):
            self.assertEqual(last(*full, fill(cell)), [-4])
        self.assertEqual(last(*full, fill(6)), [-1])

    def test_all_is_as_it_was(self):
        before = (*ROUND, fill(0), fill(1))
        after = (go(), foldings(), back(), back(), back(), foldings())
        for cell, refusal in ((6, -1), (HUGE, -1), (0, -4), (1, -4), (3, -2), (5, -2), (4, -6)):
            expected = ask(*before) + [[refusal]] + ask(*before, *after)[4:]
            self.assertEqual(ask(*before, fill(cell), *after), expected, cell)


if __name__ == "__main__":
    unittest.main()

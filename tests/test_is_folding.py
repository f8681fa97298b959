"""The call is_folding."""

import random
import unittest

from helper import (HUGE, all_blocks, ask, ask_each, back, block, chain, fill, foldings, go, is_folding, last,
                    number_of, paths_by_chain, plain, size_of)

ROUND = (block(3, 2, 1), chain(0, 1, 1, 0))
WAY = (0, 1, 2, 5, 4, 3)


class IsFolding(unittest.TestCase):
    def test_at_the_very_beginning(self):
        self.assertEqual(ask(is_folding(0, 1), is_folding(1, 0)), [[1], [1]])

    def test_foldings(self):
        self.assertEqual(last(*ROUND, is_folding(*WAY)), [1])
        self.assertEqual(last(block(2, 2, 2), is_folding(0, 1, 3, 2, 6, 4, 5, 7)), [1])
        self.assertEqual(last(block(12, 1, 1), chain(*[0] * 10), is_folding(*range(11, -1, -1))), [1])

    def test_every_folding_of_some_blocks(self):
        for sides in ((2, 2, 3), (3, 3, 1), (1, 4, 3), (2, 2, 2), (2, 1, 1)):
            for inner, paths in paths_by_chain(sides).items():
                calls = [is_folding(*[number_of(sides, spot) for spot in path]) for path in paths]
                answered = ask_each((block(*sides), chain(*inner)), calls)
                self.assertEqual(answered, [[1]] * len(paths), (sides, inner))


class FirstWrongPlace(unittest.TestCase):
    def test_no_such_cell(self):
        for wrong in (6, 7, 12, HUGE):
            for place in range(6):
                cells = list(WAY)
                cells[place] = wrong
                self.assertEqual(last(*ROUND, is_folding(*cells)), [0, place], cells)

    def test_the_number_of_cells_at_every_block(self):
        for sides in all_blocks():
            self.assertEqual(last(block(*sides), is_folding(size_of(sides))), [0, 0])
            self.assertEqual(last(block(*sides), is_folding(0, size_of(sides))), [0, 1])

    def test_a_cell_that_stood_ahead(self):
        self.assertEqual(last(*ROUND, is_folding(0, 0)), [0, 1])
        self.assertEqual(last(*ROUND, is_folding(0, 1, 0, 5, 4, 3)), [0, 2])
        self.assertEqual(last(*ROUND, is_folding(0, 1, 2, 5, 4, 5)), [0, 5])
        # As to neighbours and directions, the last of these would do.
        self.assertEqual(last(block(3, 2, 1), chain(0, 1, 1, 1), is_folding(0, 1, 2, 5, 4, 1)), [0, 5])
        self.assertEqual(last(block(2, 2, 2), is_folding(0, 1, 3, 2, 0)), [0, 4])

    def test_no_neighbour(self):
        self.assertEqual(last(*ROUND, is_folding(0, 2, 1, 4, 3, 5)), [0, 1])
        self.assertEqual(last(*ROUND, is_folding(0, 1, 2, 4, 5, 3)), [0, 3])
        self.assertEqual(last(*ROUND, is_folding(0, 1, 2, 3)), [0, 3])
        self.assertEqual(last(block(3, 2, 2), is_folding(5, 6)), [0, 1])

    def test_wrong_direction_at_a_straight_cube(self):
        self.assertEqual(last(*ROUND, is_folding(0, 1, 4, 3)), [0, 2])
        self.assertEqual(last(block(3, 2, 1), chain(0, 1, 1, 0), is_folding(0, 3, 4, 5)), [0, 2])
        self.assertEqual(last(block(3, 2, 1), chain(0, 1, 0, 0), is_folding(*WAY)), [0, 4])

    def test_wrong_direction_at_a_corner(self):
        self.assertEqual(last(block(3, 2, 1), is_folding(*WAY)), [0, 2])
        self.assertEqual(last(block(3, 2, 1), chain(0, 1, 1, 1), is_folding(*WAY)), [0, 5])
        self.assertEqual(last(block(3, 1, 1), is_folding(0, 1, 2)), [0, 2])

    def test_the_first_of_several(self):
        self.assertEqual(last(*ROUND, is_folding(0, 4, 0, HUGE)), [0, 1])
        self.assertEqual(last(*ROUND, is_folding(HUGE, HUGE)), [0, 0])
        self.assertEqual(last(*ROUND, is_folding(0, 1, 2, 2, 9)), [0, 3])

    def test_the_second_cell_may_lie_in_any_direction(self):
        for inner in ((0, 1, 1, 0), (1, 1, 1, 1)):
            for cell in (0, 2, 4):
                self.assertEqual(last(block(3, 2, 1), chain(*inner), is_folding(1, cell)), [0, 2])


class FewerOrMore(unittest.TestCase):
    def test_no_cells_at_all(self):
        self.assertEqual(ask(is_folding()), [[0, 0]])
        for sides in all_blocks():
            self.assertEqual(last(block(*sides), is_folding()), [0, 0])

    def test_fewer_than_all_but_right(self):
        for many in range(6):
            self.assertEqual(last(*ROUND, is_folding(*WAY[:many])), [0, many])
        self.assertEqual(last(is_folding(1)), [0, 1])

    def test_right_so_far_though_no_folding_begins_so(self):
        self.assertEqual(last(*ROUND, is_folding(1)), [0, 1])
        self.assertEqual(last(*ROUND, is_folding(0, 3)), [0, 2])
        self.assertEqual(last(block(3, 1, 1), is_folding(0, 1)), [0, 2])

    def test_fewer_and_wrong(self):
        self.assertEqual(last(*ROUND, is_folding(0, 1, 1)), [0, 2])
        self.assertEqual(last(*ROUND, is_folding(6)), [0, 0])

    def test_more_than_all(self):
        for more in ((0,), (HUGE,), (3, 3), tuple(range(8)), (HUGE,) * 8):
            self.assertEqual(last(*ROUND, is_folding(*WAY, *more)), [1], more)
            self.assertEqual(last(*ROUND, is_folding(*WAY[:5], 0, *more)), [0, 5], more)
            self.assertEqual(last(*ROUND, is_folding(9, *WAY[1:], *more)), [0, 0], more)

    def test_fourteen_at_every_block(self):
        for sides in all_blocks():
            inner, paths = sorted(paths_by_chain(sides).items())[0]
            cells = [number_of(sides, spot) for spot in paths[-1]]
            calls = [is_folding(*(cells + [HUGE] * 14)[:many]) for many in range(len(cells), 15)]
            self.assertEqual(ask(block(*sides), chain(*inner), *calls)[2:], [[1]] * len(calls), sides)
            self.assertEqual(last(block(*sides), chain(*inner), is_folding(*[0] * 14)), [0, 1])


class Apart(unittest.TestCase):
    def test_what_is_filled_does_not_matter(self):
        for filled in ((), (0,), (1,), (5, 4), WAY):
            filling = [fill(cell) for cell in filled]
            for cells, answer in ((WAY, [1]), ((3, 4, 5, 2, 1, 0), [1]), ((), [0, 0]), ((0, 1), [0, 2]), ((6,), [0, 0])):
                self.assertEqual(last(*ROUND, *filling, is_folding(*cells)), answer, (filled, cells))

    def test_it_changes_nothing(self):
        before = (*ROUND, fill(0), fill(1))
        after = (go(), foldings(), fill(2), back(), back(), back(), foldings(), back())
        for cells in ((), WAY, WAY[:3], (0, 0), (HUGE,) * 14, (3, 4, 5, 2, 1, 0)):
            self.assertEqual(ask(*before, is_folding(*cells), *after)[5:], ask(*before, *after)[4:], cells)


class AgainstThePlainSearch(unittest.TestCase):
    def test_foldings_with_slips(self):
        dice = random.Random(3)
        for turn in range(800):
            sides = dice.choice(all_blocks())
            inner = dice.choice(sorted(paths_by_chain(sides)))
            cells = [number_of(sides, spot) for spot in dice.choice(paths_by_chain(sides)[inner])]
            for slip in range(dice.randrange(3)):
                cells[dice.randrange(len(cells))] = dice.choice((*range(len(cells) + 1), HUGE))
            cells = (cells + [dice.randrange(13) for more in range(14)])[:dice.randrange(15)]
            wanted = inner if dice.randrange(3) else [dice.randrange(2) for cube in inner]
            calls = (block(*sides), chain(*wanted), is_folding(*cells))
            self.assertEqual(ask(*calls), plain(*calls), calls)


if __name__ == "__main__":
    unittest.main()

"""The calls chains, single and corners, which speak of all chains of the block."""

import itertools
import unittest

from helper import (all_blocks, ask, ask_each, back, block, chain, chains, corners, fill, foldings, go, is_folding,
                    last, plain, single, size_of, which)

CALLS = (chains(), single(), corners())


def of_block(*sides):
    """What the three calls answer at this block."""
    return [last(block(*sides), call) for call in CALLS]


class ByHand(unittest.TestCase):
    def test_two_cells_have_an_empty_row(self):
        self.assertEqual(ask(chains(), single()), [[1, 2], [1]])
        self.assertEqual(ask(corners()), [[0]])
        for sides in ((2, 1, 1), (1, 2, 1), (1, 1, 2)):
            self.assertEqual(of_block(*sides), [[1, 2], [1], [0]])

    def test_lines(self):
        self.assertEqual(of_block(3, 1, 1), [[1, 2], [1, 0], [0, 0]])
        for sides in ((12, 1, 1), (1, 12, 1), (1, 1, 12)):
            self.assertEqual(of_block(*sides), [[1, 2], [1] + [0] * 10, [0] + [0] * 10])

    def test_square(self):
        self.assertEqual(of_block(2, 2, 1), [[1, 8], [1, 1, 1], [2, 1, 1]])

    def test_cube_has_no_single_one(self):
        self.assertEqual(of_block(2, 2, 2), [[1, 144], [0], [6] + [1] * 6])

    def test_three_by_two(self):
        # Sixteen ways: round (0110, four), up and down (1111, four), and from a middle cell or to one
        # (1101 and 1011, four each).
        self.assertEqual(of_block(3, 2, 1), [[4, 16], [4, 0, 1, 1, 0], [2, 0, 1, 1, 0]])

    def test_corners_of_longer_ones(self):
        # Round and round inwards takes no more corners than to and fro.
        self.assertEqual(last(block(3, 3, 1), corners()), [4, 0, 1, 0, 1, 0, 1, 1])
        self.assertEqual(last(block(4, 3, 1), corners()), [4, 0, 0, 1, 0, 1, 0, 0, 1, 1, 0])
        self.assertEqual(last(block(2, 2, 3), corners()), [6, 0, 1, 1, 0, 1, 1, 0, 1, 1, 0])


class AgainstThePlainSearch(unittest.TestCase):
    def test_every_block_in_every_order(self):
        for sides in all_blocks():
            for call in CALLS:
                calls = (block(*sides), call)
                self.assertEqual(ask(*calls), plain(*calls), (sides, call))

    def test_the_order_of_the_sides_does_not_matter(self):
        for sides in ((2, 2, 3), (4, 3, 1), (3, 3, 1), (3, 2, 1), (2, 1, 1)):
            for order in itertools.permutations(sides):
                self.assertEqual(of_block(*order), of_block(*sides), order)

    def test_trying_every_chain(self):
        for sides in ((2, 1, 1), (3, 2, 1), (1, 2, 4), (3, 3, 1), (2, 2, 2), (5, 2, 1), (2, 3, 2)):
            rows = list(itertools.product((0, 1), repeat=size_of(sides) - 2))
            calls = [call for row in rows for call in (chain(*row), foldings())]
            # With two calls ahead the parts are even, so no chain is parted from its foldings.
            ahead = (block(*sides), back())
            found = dict(zip(rows, ask_each(ahead, calls)[1::2]))
            there = [row for row in rows if found[row][0] > 0]
            alone = [row for row in rows if found[row][1] == 1]
            fewest = min(there, key=sum)
            self.assertEqual(of_block(*sides), [
                [len(there), sum(found[row][0] for row in rows)],
                [len(alone)] + [cube for row in alone[:1] for cube in row],
                [sum(fewest), *fewest],
            ], sides)


class Apart(unittest.TestCase):
    def test_each_block_has_a_chain_with_a_folding(self):
        for sides in all_blocks():
            self.assertGreater(min(last(block(*sides), chains())), 0)
            inner = last(block(*sides), corners())[1:]
            self.assertGreater(last(block(*sides), chain(*inner), foldings())[0], 0)

    def test_chain_and_filled_do_not_matter(self):
        for before in ((chain(0, 1, 1, 0),), (chain(0, 0, 0, 0),), (fill(0),), (chain(0, 1, 1, 0), fill(0), fill(3)),
                       (chain(0, 1, 1, 0), *[fill(cell) for cell in (0, 1, 2, 5, 4, 3)]), (chain(2), fill(9), back())):
            answered = [last(block(3, 2, 1), *before, call) for call in CALLS]
            self.assertEqual(answered, of_block(3, 2, 1), before)

    def test_they_change_nothing(self):
        before = (block(3, 2, 1), chain(0, 1, 1, 0), fill(0), fill(1))
        after = (go(), foldings(), which(0), is_folding(0, 1, 2, 5, 4, 3), fill(2), back(), back(), back(), foldings(),
                 back())
        for call in CALLS:
            self.assertEqual(ask(*before, call, call, *after)[6:], ask(*before, *after)[4:], call)

    def test_twice_in_one_list(self):
        for one, other in itertools.product(CALLS, CALLS):
            calls = (block(2, 3, 2), one, block(3, 3, 1), fill(4), other)
            self.assertEqual(ask(*calls), plain(*calls))

    def test_behind_a_refused_block(self):
        self.assertEqual(ask(block(2, 2, 1), block(13, 1, 1), chains(), single())[1:], [[-1], [1, 8], [1, 1, 1]])


if __name__ == "__main__":
    unittest.main()

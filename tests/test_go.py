"""The call go."""

import unittest

from helper import all_blocks, ask, back, block, chain, fill, foldings, go, last, paths_by_chain, plain


class Go(unittest.TestCase):
    def test_at_the_very_beginning(self):
        self.assertEqual(ask(go()), [[2, 0, 1]])

    def test_with_nothing_filled(self):
        self.assertEqual(last(block(2, 2, 2), go()), [8, 0, 1, 2, 3, 4, 5, 6, 7])
        self.assertEqual(last(block(3, 2, 1), chain(0, 1, 1, 0), go()), [4, 0, 2, 3, 5])

    def test_with_a_beginning(self):
        self.assertEqual(last(block(2, 2, 2), fill(7), go()), [3, 3, 5, 6])
        self.assertEqual(last(block(3, 2, 1), chain(0, 1, 1, 0), fill(0), go()), [1, 1])
        self.assertEqual(last(block(12, 1, 1), chain(*[0] * 10), fill(11), go()), [1, 10])

    def test_cells_that_lead_nowhere_are_left_out(self):
        # From 0, the cell 3 can be filled, but no folding begins so.
        self.assertEqual(last(block(3, 2, 1), chain(0, 1, 1, 0), fill(0), fill(3)), [0])
        self.assertEqual(last(block(3, 2, 1), fill(0), go()), [1, 3])

    def test_none_begins_so(self):
        self.assertEqual(last(block(3, 1, 1), go()), [0])
        self.assertEqual(last(block(3, 1, 1), chain(0), fill(1), go()), [0])
        self.assertEqual(last(block(2, 2, 1), chain(0, 0), go()), [0])
        self.assertEqual(last(block(3, 2, 1), chain(0, 1, 1, 0), fill(0), fill(3), go()), [0])

    def test_all_filled(self):
        self.assertEqual(last(fill(0), fill(1), go()), [0])
        self.assertEqual(last(block(2, 2, 1), fill(0), fill(1), fill(3), fill(2), go()), [0])

    def test_one_cell_left(self):
        self.assertEqual(last(block(2, 2, 1), fill(0), fill(1), fill(3), go()), [1, 2])

    def test_it_changes_nothing(self):
        self.assertEqual(ask(block(2, 2, 1), fill(0), go(), go(), foldings(), back())[2:],
                         [[2, 1, 2], [2, 1, 2], [2, 1], [8]])

    def test_against_the_plain_search(self):
        for sides in all_blocks():
            inner = sorted(paths_by_chain(sides))[-1]
            for cell in range(len(inner) + 2):
                calls = (block(*sides), chain(*inner), go(), fill(cell), go())
                self.assertEqual(ask(*calls), plain(*calls), (sides, inner, cell))


if __name__ == "__main__":
    unittest.main()

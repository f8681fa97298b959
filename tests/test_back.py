"""Promise 4, as far as it speaks of back."""

import unittest

from helper import ask, back, block, chain, fill, foldings, go, last


class BackAnswers(unittest.TestCase):
    def test_how_many_begin_so_then(self):
        calls = (block(2, 2, 2), fill(0), fill(1), fill(3), back(), back(), back())
        self.assertEqual(ask(*calls), [[8], [18], [6], [3], [6], [18], [144]])

    def test_from_all_filled(self):
        self.assertEqual(ask(fill(1), fill(0), back(), back()), [[1], [1], [1], [2]])

    def test_where_none_begins_so(self):
        self.assertEqual(ask(block(3, 1, 1), fill(0), fill(1), back(), back())[3:], [[0], [0]])
        self.assertEqual(ask(block(3, 1, 1), chain(0), fill(1), back())[2:], [[0], [2]])

    def test_the_cell_is_free_again(self):
        self.assertEqual(ask(block(2, 2, 1), fill(0), fill(1), back(), fill(2), fill(3), fill(1))[3:],
                         [[2], [1], [1], [1]])
        self.assertEqual(last(block(2, 2, 1), fill(0), back(), fill(0)), [2])

    def test_the_one_before_is_the_last_filled_again(self):
        self.assertEqual(last(block(2, 2, 1), fill(0), fill(1), back(), go()), [2, 1, 2])


class BackRefuses(unittest.TestCase):
    def test_at_the_very_beginning(self):
        self.assertEqual(ask(back()), [[-9]])
        self.assertEqual(ask(back(), back(), back()), [[-9]] * 3)

    def test_once_too_often(self):
        self.assertEqual(ask(fill(0), back(), back()), [[1], [2], [-9]])

    def test_behind_block_and_chain(self):
        self.assertEqual(ask(fill(0), block(2, 2, 1), back()), [[1], [4], [-9]])
        self.assertEqual(ask(fill(0), chain(), back()), [[1], [0], [-9]])

    def test_all_is_as_it_was(self):
        self.assertEqual(ask(block(3, 1, 1), chain(0), back(), go(), foldings(), fill(2))[2:],
                         [[-9], [2, 0, 2], [2, 1], [1]])


if __name__ == "__main__":
    unittest.main()

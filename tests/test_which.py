"""Promise 4, as far as it speaks of which."""

import unittest

from helper import (HUGE, all_blocks, ask, ask_each, back, block, chain, fill, foldings, go, last, number_of,
                    paths_by_chain, plain, which)

ROUND = (block(3, 2, 1), chain(0, 1, 1, 0))


class WhichAnswers(unittest.TestCase):
    def test_at_the_very_beginning(self):
        self.assertEqual(ask(which(0), which(1), which(2)), [[0, 0, 1], [0, 1, 0], [-3]])

    def test_all_of_them_in_order(self):
        self.assertEqual(ask(*ROUND, *[which(k) for k in range(5)])[2:],
                         [[0, 0, 1, 2, 5, 4, 3], [0, 2, 1, 0, 3, 4, 5], [0, 3, 4, 5, 2, 1, 0], [0, 5, 4, 3, 0, 1, 2],
                          [-3]])

    def test_with_a_beginning(self):
        self.assertEqual(ask(block(2, 2, 1), fill(0), which(0), which(1), which(2))[2:],
                         [[0, 0, 1, 3, 2], [0, 0, 2, 3, 1], [-3]])
        self.assertEqual(ask(*ROUND, fill(3), which(0), which(1))[3:], [[0, 3, 4, 5, 2, 1, 0], [-3]])
        self.assertEqual(ask(block(2, 2, 2), fill(7), fill(6), which(0), which(5), which(6))[3:],
                         [[0, 7, 6, 2, 0, 4, 5, 1, 3], [0, 7, 6, 4, 5, 1, 3, 2, 0], [-3]])

    def test_first_and_last(self):
        self.assertEqual(ask(block(2, 2, 2), which(0), which(143), which(144))[1:],
                         [[0, 0, 1, 3, 2, 6, 4, 5, 7], [0, 7, 6, 4, 5, 1, 3, 2, 0], [-3]])

    def test_all_filled(self):
        self.assertEqual(ask(fill(1), fill(0), which(0), which(1))[2:], [[0, 1, 0], [-3]])
        full = (*ROUND, *[fill(cell) for cell in (5, 4, 3, 0, 1, 2)])
        self.assertEqual(last(*full, which(0)), [0, 5, 4, 3, 0, 1, 2])

    def test_behind_back(self):
        self.assertEqual(last(block(2, 2, 1), fill(3), back(), which(0)), [0, 0, 1, 3, 2])

    def test_it_changes_nothing(self):
        before = (block(2, 2, 1), fill(0))
        after = (go(), foldings(), which(1), back(), back(), which(7), foldings())
        for k in (0, 1, 2, HUGE):
            self.assertEqual(ask(*before, which(k), *after)[3:], ask(*before, *after)[2:], k)


class WhichRefuses(unittest.TestCase):
    def test_one_past_the_last(self):
        self.assertEqual(last(block(2, 2, 1), which(8)), [-3])
        self.assertEqual(last(block(12, 1, 1), chain(*[0] * 10), which(2)), [-3])

    def test_the_highest_number(self):
        self.assertEqual(ask(which(HUGE)), [[-3]])
        self.assertEqual(last(block(2, 2, 3), which(HUGE)), [-3])
        self.assertEqual(last(block(2, 2, 3), fill(0), which(HUGE)), [-3])

    def test_where_none_begins_so(self):
        for k in (0, 1, HUGE):
            self.assertEqual(last(block(3, 1, 1), which(k)), [-3])
            self.assertEqual(last(block(2, 2, 1), chain(0, 0), which(k)), [-3])
            self.assertEqual(last(*ROUND, fill(1), which(k)), [-3])
            self.assertEqual(last(*ROUND, fill(0), fill(3), which(k)), [-3])


class AgainstThePlainSearch(unittest.TestCase):
    def test_every_folding_and_one_more(self):
        for sides in ((2, 2, 3), (2, 2, 2), (3, 3, 1), (1, 3, 3), (4, 3, 1), (1, 2, 5), (2, 2, 1), (12, 1, 1)):
            for inner, paths in paths_by_chain(sides).items():
                rows = sorted([number_of(sides, spot) for spot in path] for path in paths)
                calls = [which(k) for k in range(len(paths) + 1)]
                self.assertEqual(ask_each((block(*sides), chain(*inner)), calls),
                                 [[0] + row for row in rows] + [[-3]], (sides, inner))

    def test_some_at_every_block(self):
        for sides in all_blocks():
            for inner in sorted(paths_by_chain(sides))[::9]:
                many = len(paths_by_chain(sides)[inner])
                calls = [block(*sides), chain(*inner)] + [which(k) for k in (0, 1, many // 2, many - 1, many, HUGE)]
                self.assertEqual(ask(*calls), plain(*calls), (sides, inner))

    def test_along_a_folding(self):
        for sides in ((2, 2, 3), (3, 2, 2), (2, 2, 2), (3, 3, 1), (2, 1, 6)):
            for inner, paths in list(paths_by_chain(sides).items())[::5]:
                calls = [block(*sides), chain(*inner)]
                for spot in paths[len(paths) // 3]:
                    calls.extend((fill(number_of(sides, spot)), which(0), which(1)))
                self.assertEqual(ask(*calls), plain(*calls), (sides, inner))


if __name__ == "__main__":
    unittest.main()

"""The one list of calls, and the one list that is given back."""

import contextlib
import io
import itertools
import random
import time
import unittest

from cubechaindesk.foldings import answers
from helper import (HUGE, all_blocks, ask, back, block, chain, chains, corners, fill, foldings, go, is_folding,
                    number_of, parted, paths_by_chain, plain, single, which)

# Each call but corners (as chains and single are there already), answered and refused, and what they answer.
MIXED = [0, 2, 2, 1, 1, 2, 1, 1, 2, 0, 4, 5, 6, 1, 7, 4, 0, 1, 3, 2, 8, 9, 3,
         0, 0, 0, 0, 1, 0, 2, 4, 3, 6, 8, 7, 1, 4, 7, 0]
MIXED_ANSWERS = [1, 4, 1, 2, 1, 2, 3, 2, 1, 2, 2, 2, 1, 5, 0, 0, 2, 3, 1, 1, 1, 2, 1, 8, 3, 1, 1, 1, 1, 8,
                 1, -1, 1, -1, 1, -1, 1, -9, 1, -3, 2, 0, 0, 2, 0, 0]
OF_ALL_CHAINS = (chains(), single(), corners())
LONG_WAIT = 5


class Guarded(list):
    """A list that refuses to be changed."""

    def refuse(self, *given, **named):
        raise AssertionError("the list handed in was to be changed")

    __setitem__ = __delitem__ = __iadd__ = __imul__ = refuse
    append = extend = insert = pop = remove = clear = reverse = sort = refuse


def some_call(dice):
    kind = dice.randrange(16)
    if kind == 0:
        return block(*(dice.choice((0, 1, 1, 2, 2, 3, 4, 12, 13, HUGE)) for side in range(3)))
    if kind == 1:
        return chain(*(dice.choice((0, 1, 1, 1, 1, 1, 2)) for cube in range(dice.randrange(15))))
    if kind == 2:
        return block(*dice.choice(all_blocks()))
    if kind < 8:
        return fill(dice.choice((*range(14), HUGE)))
    if kind == 8:
        return which(dice.choice((0, 1, 2, 7, 143, HUGE)))
    if kind == 9:
        return is_folding(*(dice.choice((*range(13), HUGE)) for cell in range(dice.randrange(15))))
    return dice.choice((back(), go(), foldings(), which(0), is_folding(0, 1)))


def strewn(dice, calls):
    """The calls with two of chains, single and corners among them."""
    calls = list(calls)
    for call in dice.choices(OF_ALL_CHAINS, k=2):
        calls.insert(dice.randrange(len(calls) + 1), call)
    return calls


def some_way(dice):
    """A block, a chain of its own, and calls that follow one of its foldings with slips now and then."""
    sides = dice.choice(all_blocks())
    inner = dice.choice(sorted(paths_by_chain(sides)))
    row = [number_of(sides, spot) for spot in dice.choice(paths_by_chain(sides)[inner])]
    calls = [block(*sides), chain(*inner)]
    for cell in row:
        if dice.randrange(4) == 0:
            calls.append(fill(dice.randrange(13)))
            calls.append(dice.choice((back(), go(), foldings(), chain(), block(0, 1, 2), which(1), is_folding(*row))))
        calls.append(fill(cell))
    return calls[:34] + [go(), foldings(), which(0), is_folding(*row[:-1])]


class OneList(unittest.TestCase):
    def test_how_many_then_these(self):
        self.assertEqual(answers([5]), [2, 2, 1])
        self.assertEqual(answers([3]), [1, -9])
        self.assertEqual(answers([4]), [3, 2, 0, 1])
        self.assertEqual(answers([0, 2, 2, 1, 1, 2, 1, 1, 2, 0, 4, 5, 2, 9, 3]),
                         [1, 4, 1, 2, 1, 2, 3, 2, 1, 2, 2, 2, 1, 1, -1, 1, 8])

    def test_a_row_with_nothing_in_it(self):
        self.assertEqual(answers([1, 0, 5]), [1, 0, 2, 2, 1])

    def test_numbers_of_a_call_are_no_calls(self):
        self.assertEqual(answers([0, 3, 3, 3, 0, 3, 1, 1, 1, 4, 5, 5, 5, 5, 2, 4, 5]),
                         [1, -1, 1, 3, 1, -1, 1, -1, 2, 0, 0])

    def test_forty_calls(self):
        calls = [block(2, 2, 2)] + [fill(0), go(), back()] * 13
        self.assertEqual(len(calls), 40)
        self.assertEqual(ask(*calls), [[8]] + [[18], [3, 1, 2, 4], [144]] * 13)

    def test_forty_of_the_largest_block(self):
        calls = [block(2, 2, 3), foldings()] * 20
        self.assertEqual(ask(*calls), [[12], [384, 24]] * 20)

    def test_forty_calls_of_many_numbers(self):
        calls = [chain(*[1] * 14)] * 40
        self.assertEqual(ask(*calls), [[-1]] * 40)

    def test_random_lists_against_the_plain_search(self):
        dice = random.Random(1)
        for turn in range(300):
            calls = strewn(dice, [some_call(dice) for call in range(dice.randrange(39))])
            self.assertEqual(ask(*calls), plain(*calls), calls)

    def test_random_ways_against_the_plain_search(self):
        dice = random.Random(2)
        for turn in range(300):
            calls = strewn(dice, some_way(dice))
            self.assertLessEqual(len(calls), 40)
            self.assertEqual(ask(*calls), plain(*calls), calls)

    def test_each_of_the_eleven_among_others(self):
        self.assertEqual(answers(MIXED), MIXED_ANSWERS)
        self.assertEqual(answers([10, 0, 2, 2, 1, 10, 5]), [1, 0, 1, 4, 3, 2, 1, 1, 2, 8, 1])

    def test_the_eleven_in_any_order(self):
        dice = random.Random(4)
        eleven = [block(3, 2, 1), chain(0, 1, 1, 0), fill(0), back(), go(), foldings(), which(1),
                  is_folding(0, 1, 2, 5, 4, 3)]
        for turn in range(200):
            calls = strewn(dice, dice.sample(eleven * 4, k=dice.choice((8, 20, 32))))
            self.assertEqual(ask(*calls), plain(*calls), calls)

    def test_two_behind_one_another(self):
        some = [block(3, 2, 1), block(0, 0, 0), chain(0, 1, 1, 0), chain(), fill(0), fill(HUGE), back(), go(),
                foldings(), which(0), which(HUGE), is_folding(), is_folding(0, 1, 2, 5, 4, 3), *OF_ALL_CHAINS]
        for one, other in itertools.product(some, some):
            calls = (one, other)
            self.assertEqual(ask(*calls), plain(*calls), calls)

    def test_the_most_numbers(self):
        cells = (0, 1, 3, 2, 6, 7, 5, 4, 8, 9, 11, 10)
        calls = [block(2, 2, 3)] + [is_folding(*cells, HUGE, HUGE), chain(*[1] * 14), is_folding(*[0] * 14)] * 13
        self.assertEqual(sum(len(call) for call in calls), 4 + 39 * 16)
        self.assertEqual(ask(*calls), [[12]] + [[1], [-1], [0, 1]] * 13)
        # Forty calls can't have more numbers than 40 times these 16.
        self.assertEqual(ask(*[is_folding(*[HUGE] * 14)] * 40), [[0, 0]] * 40)


class NoLongWait(unittest.TestCase):
    def soon(self, calls):
        self.assertEqual(len(calls), 40)
        begun = time.perf_counter()
        ask(*calls)
        self.assertLess(time.perf_counter() - begun, LONG_WAIT)

    def test_one_block_of_twelve(self):
        for pair in itertools.product(OF_ALL_CHAINS, OF_ALL_CHAINS):
            for sides in ((2, 2, 3), (4, 3, 1), (12, 1, 1)):
                self.soon([block(*sides)] + [which(383), foldings(), go()] * 12 + [fill(0), *pair])

    def test_many_blocks_of_twelve(self):
        orders = [block(*sides) for sides in itertools.permutations((2, 2, 3))]
        for pair in itertools.product(OF_ALL_CHAINS, OF_ALL_CHAINS):
            self.soon([orders[turn % 6] for turn in range(38)] + list(pair))

    def test_many_chains_of_twelve(self):
        inner = sorted(paths_by_chain((2, 2, 3)))
        changed = [chain(*inner[turn % len(inner)]) for turn in range(18)]
        calls = [call for row in changed for call in (row, foldings())]
        self.soon([block(2, 2, 3)] + calls + [go(), single(), chains()])


class HandedIn(unittest.TestCase):
    def test_it_is_not_changed(self):
        others = [0, 3, 2, 1, 1, 4, 0, 1, 1, 0, 2, 0, 2, 1, 3, 4, 5, 1, 2, 7, 7, 10, 0, 0, 0, 0, 2, 99, 3, 3, 10]
        for calls in (MIXED, others):
            kept = list(calls)
            first = answers(calls)
            self.assertEqual(calls, kept)
            self.assertEqual(answers(Guarded(calls)), first)

    def test_nothing_is_kept(self):
        calls = [0, 2, 2, 1, 2, 0, 5]
        first = answers(calls)
        self.assertEqual(answers([5, 4, 3]), [2, 2, 1, 3, 2, 0, 1, 1, -9])
        self.assertEqual(answers(calls), first)
        first.append(7)
        self.assertEqual(answers(calls), [1, 4, 1, 2, 2, 2, 1])

    def test_a_second_time_is_as_the_first(self):
        for turn in range(2):
            first = answers(MIXED)
            self.assertEqual(first, MIXED_ANSWERS)
            first.clear()
            self.assertEqual(answers([6, 0, 7, 2, 0, 1, 8, 9]), [3, 0, 0, 1, 1, 1, 2, 1, 2, 1, 1])
            self.assertEqual(answers([10, 9]), [1, 0, 1, 1])

    def test_whole_numbers_in_a_list(self):
        for calls, many in ((MIXED, 17), ([0, 3, 3, 1, 10, 9, 4, 5, 2, 0, 3, 3, 1, 0], 9), ([9, 10], 2)):
            answered = answers(calls)
            self.assertIs(type(answered), list)
            self.assertEqual({type(number) for number in answered}, {int})
            self.assertEqual(len(parted(answered)), many)

    def test_whole_numbers_at_random(self):
        dice = random.Random(5)
        for turn in range(50):
            answered = answers([number for call in strewn(dice, some_way(dice)) for number in call])
            self.assertEqual({type(number) for number in answered}, {int})

    def test_nothing_is_printed(self):
        said = io.StringIO()
        with contextlib.redirect_stdout(said), contextlib.redirect_stderr(said):
            answers(MIXED)
            answers([10])
        self.assertEqual(said.getvalue(), "")


if __name__ == "__main__":
    unittest.main()

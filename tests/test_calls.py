"""The one list of calls, and the one list that is given back."""

import contextlib
import io
import random
import unittest

from cubechaindesk.foldings import answers
from helper import (HUGE, all_blocks, ask, back, block, chain, fill, foldings, go, number_of, parted,
                    paths_by_chain, plain)

LATER_CALLS = ([6, 0], [7, 0], [7, 4, 0, 1, 3, 2], [7, 14] + [HUGE] * 14, [8], [9], [10])


class Guarded(list):
    """A list that refuses to be changed."""

    def refuse(self, *given, **named):
        raise AssertionError("the list handed in was to be changed")

    __setitem__ = __delitem__ = __iadd__ = __imul__ = refuse
    append = extend = insert = pop = remove = clear = reverse = sort = refuse


def some_call(dice):
    kind = dice.randrange(12)
    if kind == 0:
        return block(*(dice.choice((0, 1, 1, 2, 2, 3, 4, 12, 13, HUGE)) for side in range(3)))
    if kind == 1:
        return chain(*(dice.choice((0, 1, 1, 1, 1, 1, 2)) for cube in range(dice.randrange(15))))
    if kind == 2:
        return block(*dice.choice(all_blocks()))
    if kind < 8:
        return fill(dice.choice((*range(14), HUGE)))
    return dice.choice((back(), go(), foldings(), foldings()))


def some_way(dice):
    """A block, a chain of its own, and calls that follow one of its foldings with slips now and then."""
    sides = dice.choice(all_blocks())
    inner = dice.choice(sorted(paths_by_chain(sides)))
    row = [number_of(sides, spot) for spot in dice.choice(paths_by_chain(sides)[inner])]
    calls = [block(*sides), chain(*inner)]
    for cell in row:
        if dice.randrange(4) == 0:
            calls.append(fill(dice.randrange(13)))
            calls.append(dice.choice((back(), go(), foldings(), chain(), block(0, 1, 2))))
        calls.append(fill(cell))
    return calls[:38] + [go(), foldings()]


class OneList(unittest.TestCase):
    def test_how_many_then_these(self):
        self.assertEqual(answers([5]), [2, 2, 1])
        self.assertEqual(answers([3]), [1, -9])
        self.assertEqual(answers([4]), [3, 2, 0, 1])
        self.assertEqual(answers([0, 2, 2, 1, 1, 2, 1, 1, 2, 0, 4, 5, 2, 9, 3]),
                         [1, 4, 1, 2, 1, 2, 3, 2, 1, 2, 2, 2, 1, 1, -1, 1, 8])

    def test_a_row_with_nothing_in_it(self):
        self.assertEqual(answers([1, 0, 5]), [1, 0, 2, 2, 1])

    def test_numbers_of_a_call_are_no_calls(self):
        self.assertEqual(answers([0, 3, 3, 3, 0, 3, 1, 1, 1, 4, 5, 5, 5, 5, 2, 4, 5]),
                         [1, -1, 1, 3, 1, -1, 1, -1, 2, 0, 0])

    def test_forty_calls(self):
        calls = [block(2, 2, 2)] + [fill(0), go(), back()] * 13
        self.assertEqual(len(calls), 40)
        self.assertEqual(ask(*calls), [[8]] + [[18], [3, 1, 2, 4], [144]] * 13)

    def test_forty_of_the_largest_block(self):
        calls = [block(2, 2, 3), foldings()] * 20
        self.assertEqual(ask(*calls), [[12], [384, 24]] * 20)

    def test_forty_calls_of_many_numbers(self):
        calls = [chain(*[1] * 14)] * 40
        self.assertEqual(ask(*calls), [[-1]] * 40)

    def test_random_lists_against_the_plain_search(self):
        dice = random.Random(1)
        for turn in range(300):
            calls = [some_call(dice) for call in range(dice.randrange(1, 41))]
            self.assertEqual(ask(*calls), plain(*calls), calls)

    def test_random_ways_against_the_plain_search(self):
        dice = random.Random(2)
        for turn in range(300):
            calls = some_way(dice)
            self.assertLessEqual(len(calls), 40)
            self.assertEqual(ask(*calls), plain(*calls), calls)

    def test_later_calls_are_read_in_their_form(self):
        for later in LATER_CALLS:
            answered = ask(block(2, 2, 1), fill(0), later, foldings(), fill(1))
            self.assertEqual(len(answered), 5)
            self.assertEqual(answered[:2] + answered[3:], [[4], [2], [2, 1], [1]], later)


class HandedIn(unittest.TestCase):
    def test_it_is_not_changed(self):
        calls = [0, 3, 2, 1, 1, 4, 0, 1, 1, 0, 2, 0, 2, 1, 3, 4, 5, 1, 2, 7, 7, 0, 0, 0, 0, 2, 99, 3, 3]
        kept = list(calls)
        first = answers(calls)
        self.assertEqual(calls, kept)
        self.assertEqual(answers(Guarded(calls)), first)

    def test_nothing_is_kept(self):
        calls = [0, 2, 2, 1, 2, 0, 5]
        first = answers(calls)
        self.assertEqual(answers([5, 4, 3]), [2, 2, 1, 3, 2, 0, 1, 1, -9])
        self.assertEqual(answers(calls), first)
        first.append(7)
        self.assertEqual(answers(calls), [1, 4, 1, 2, 2, 2, 1])

    def test_whole_numbers_in_a_list(self):
        answered = answers([0, 2, 2, 1, 1, 2, 1, 1, 2, 0, 4, 5, 3, 3, 0, 0, 0, 0, 1, 0, 1, 2, 0, 0, 4, 5])
        self.assertIs(type(answered), list)
        self.assertEqual({type(number) for number in answered}, {int})
        self.assertEqual(len(parted(answered)), 12)

    def test_nothing_is_printed(self):
        said = io.StringIO()
        with contextlib.redirect_stdout(said), contextlib.redirect_stderr(said):
            answers([0, 2, 2, 1, 5, 4, 3, 0, 0, 0, 0])
        self.assertEqual(said.getvalue(), "")


if __name__ == "__main__":
    unittest.main()

"""Points 6 and 7, over dicts of bases."""

import itertools
import unittest

from packdelta.trees import chain_of, middle, reach
from reckoning import Dice, plain_chain, plain_middle, plain_reach

FAR = 10 ** 12


def path(many, first=0, step=1):
    """Each version leans on the one before it; the first is whole."""
    numbers = range(first, first + many * step, step)
    return {n: None if n == first else n - step for n in numbers}


def falling_path(many):
    """Each version leans on the one with the next greater number; the last is whole."""
    return {n: None if n == many - 1 else n + 1 for n in range(many)}


def star(many, center):
    """All versions lean on one."""
    return {n: None if n == center else center for n in range(many)}


def orders(bases):
    """The same dict with its keys in several orders."""
    yield dict(sorted(bases.items()))
    yield dict(sorted(bases.items(), reverse=True))
    for seed in range(3):
        yield {n: bases[n] for n in Dice(seed).mixed(bases)}


def some_forest(dice, many, numbers=None):
    """Versions of which each leans on any one that was put in earlier, or is whole."""
    numbers = numbers or dice.mixed(range(many))
    bases = {}
    for k, number in enumerate(numbers):
        bases[number] = None if k == 0 or dice.below(5) == 0 else dice.pick(numbers[:k])
    return bases


def all_dicts(many):
    """Every dict of bases with these versions whose chains all end."""
    choices = [None] + list(range(many))
    for bases in itertools.product(choices, repeat=many):
        found = dict(enumerate(bases))
        if all(ends(found, n) for n in found):
            yield found


def ends(bases, number):
    """Whether the chain ends."""
    for _ in range(len(bases)):
        number = bases[number]
        if number is None:
            return True
    return False


class TreesCase(unittest.TestCase):
    def check(self, bases, number, chain, steps, best):
        for ordered in orders(bases):
            with self.subTest(bases=ordered, number=number):
                self.assertEqual(chain_of(ordered, number), chain)
                self.assertEqual(reach(ordered, number), steps)
                self.assertEqual(middle(ordered, number), best)

    def check_plainly(self, bases):
        for number in bases:
            with self.subTest(bases=bases, number=number):
                self.assertEqual(chain_of(bases, number), plain_chain(bases, number))
                self.assertEqual(reach(bases, number), plain_reach(bases, number))
                self.assertEqual(middle(bases, number), plain_middle(bases, number))


class ShapesTest(TreesCase):
    def test_one_version_alone(self):
        self.check({0: None}, 0, [0], 0, 0)
        self.check({7: None}, 7, [7], 0, 7)

    def test_two_versions(self):
        self.check({0: None, 1: 0}, 0, [0], 1, 1)
        self.check({0: None, 1: 0}, 1, [1, 0], 1, 1)
        self.check({0: 1, 1: None}, 0, [0, 1], 1, 1)
        self.check({0: 1, 1: None}, 1, [1], 1, 1)

    def test_a_path_of_an_uneven_number_has_one_middle(self):
        self.check(path(5), 0, [0], 4, 2)
        self.check(path(5), 2, [2, 1, 0], 2, 2)
        self.check(path(5), 4, [4, 3, 2, 1, 0], 4, 2)
        self.check(falling_path(5), 0, [0, 1, 2, 3, 4], 4, 2)

    def test_of_two_middles_the_greater_number(self):
        self.check(path(4), 0, [0], 3, 2)
        self.check(path(4), 3, [3, 2, 1, 0], 3, 2)
        self.check(falling_path(4), 0, [0, 1, 2, 3], 3, 2)
        # The path is 5, 1, 2, 9: of 1 and 2 in its middle the second one is greater.
        self.check({5: None, 1: 5, 2: 1, 9: 2}, 9, [9, 2, 1, 5], 3, 2)
        # The path is 0, 8, 3, 1, and the two in its middle are 8 and 3.
        self.check({0: None, 8: 0, 3: 8, 1: 3}, 1, [1, 3, 8, 0], 3, 8)
        self.check({1: None, 3: 1, 8: 3, 0: 8}, 0, [0, 8, 3, 1], 3, 8)

    def test_a_star(self):
        for center in (0, 3, 6):
            self.check(star(7, center), center, [center], 1, center)
            for leaf in range(7):
                if leaf != center:
                    self.check(star(7, center), leaf, [leaf, center], 2, center)

    def test_from_a_version_one_goes_both_ways(self):
        # 4 and 6 lie in two branches; between them one goes up to 0 and down again.
        bases = {0: None, 1: 0, 2: 1, 3: 2, 4: 3, 5: 0, 6: 5}
        self.check(bases, 4, [4, 3, 2, 1, 0], 6, 1)
        self.check(bases, 6, [6, 5, 0], 6, 1)
        self.check(bases, 1, [1, 0], 3, 1)
        self.check(bases, 0, [0], 4, 1)

    def test_the_middle_may_lie_off_the_chain(self):
        bases = {0: None, 1: 0, 2: 1, 3: 2, 4: 3, 5: 0}
        self.check(bases, 5, [5, 0], 5, 2)
        self.assertNotIn(2, chain_of(bases, 5))

    def test_bases_behind_the_versions_that_lean_on_them(self):
        bases = {0: 4, 1: 0, 2: 4, 3: 5, 4: 3, 5: None}
        self.check(bases, 1, [1, 0, 4, 3, 5], 4, 4)
        self.check(bases, 2, [2, 4, 3, 5], 3, 4)
        self.check(bases, 5, [5], 4, 4)

    def test_each_tree_by_itself(self):
        bases = {0: None, 2: 0, 4: 2, 6: 4, 8: 6, 1: None, 3: 1, 5: 3, 7: None}
        self.check(bases, 0, [0], 4, 4)
        self.check(bases, 8, [8, 6, 4, 2, 0], 4, 4)
        self.check(bases, 1, [1], 2, 3)
        self.check(bases, 5, [5, 3, 1], 2, 3)
        self.check(bases, 7, [7], 0, 7)

    def test_great_numbers(self):
        bases = {FAR: None, FAR + 5: FAR, 10 ** 30: FAR + 5, 3: 10 ** 30, 0: FAR}
        self.check(bases, 3, [3, 10 ** 30, FAR + 5, FAR], 4, FAR + 5)
        self.check(bases, 0, [0, FAR], 4, FAR + 5)
        self.check(path(4, FAR, FAR), FAR, [FAR], 3, 3 * FAR)
        self.check({10 ** 30: None, 10 ** 30 + 1: 10 ** 30}, 10 ** 30, [10 ** 30], 1, 10 ** 30 + 1)

    def test_thirty_versions(self):
        self.check(path(30), 29, list(range(29, -1, -1)), 29, 15)
        self.check(falling_path(30), 0, list(range(30)), 29, 15)
        self.check(star(30, 17), 3, [3, 17], 2, 17)

    def test_somewhat_beyond_thirty(self):
        self.check(path(70), 69, list(range(69, -1, -1)), 69, 35)


class PlainReckoningTest(TreesCase):
    def test_all_small_dicts(self):
        for many in (1, 2, 3, 4):
            for bases in all_dicts(many):
                self.check_plainly(bases)

    def test_mixed_forests(self):
        for seed in range(60):
            dice = Dice(seed)
            self.check_plainly(some_forest(dice, 1 + dice.below(12)))

    def test_mixed_forests_of_thirty(self):
        for seed in range(4):
            self.check_plainly(some_forest(Dice(seed), 30))

    def test_mixed_forests_with_great_numbers(self):
        for seed in range(10):
            dice = Dice(seed)
            numbers = dice.mixed([k * FAR + dice.below(9) for k in range(15)] + [10 ** 40 + 1])
            self.check_plainly(some_forest(dice, 0, numbers))


class HandedInTest(unittest.TestCase):
    """Point 1."""

    BASES = {4: 2, 0: None, 2: 0, 9: None, 1: 4}

    def test_the_dict_is_the_same_behind_each_call(self):
        for asked in (chain_of, reach, middle):
            with self.subTest(asked=asked.__name__):
                bases = dict(self.BASES)
                asked(bases, 1)
                self.assertEqual(list(bases.items()), list(self.BASES.items()))

    def test_the_chain_is_a_new_list_at_each_asking(self):
        bases = dict(self.BASES)
        chain = chain_of(bases, 1)
        self.assertIs(type(chain), list)
        chain.append(77)
        chain[0] = 5
        self.assertEqual(chain_of(bases, 1), [1, 4, 2, 0])
        self.assertIsNot(chain_of(bases, 1), chain_of(bases, 1))

    def test_nothing_of_the_dict_is_remembered(self):
        bases = dict(self.BASES)
        chain = chain_of(bases, 1)
        self.assertEqual((reach(bases, 1), middle(bases, 1)), (3, 4))
        bases[1] = 9
        self.assertEqual(chain, [1, 4, 2, 0])
        self.assertEqual(chain_of(bases, 1), [1, 9])
        self.assertEqual((reach(bases, 1), middle(bases, 1)), (1, 9))
        self.assertEqual((reach(bases, 0), middle(bases, 0)), (2, 2))

    def test_the_kinds_of_the_answers(self):
        self.assertIs(type(reach(dict(self.BASES), 1)), int)
        self.assertIs(type(middle(dict(self.BASES), 1)), int)


if __name__ == "__main__":
    unittest.main()

"""Point 9: rooting a tree at one of its versions."""

import unittest

from packcase import PackCase, pack_of, state, texts_of
from packdelta.errors import NoVersion, TooFar
from packdelta.opening import opened
from packdelta.packs import Pack
from reckoning import longer, plain_chain, plain_change, plain_reach, rows_of, texts_for


def turned_back(change):
    """Point 3."""
    at, gone, come = change
    return (at, come, gone)


class RootTest(PackCase):
    def check_rooted(self, pack, number):
        """Root the tree, and hold each row against what it was."""
        before, texts = pack.rows(), texts_of(pack)
        bases = {n: base for n, base, _ in before}
        kept = {n: change for n, _, change in before}
        chain = plain_chain(bases, number)
        self.assertIsNone(pack.root(number))
        expected = {n: (n, bases[n], kept[n]) for n in bases}
        for ahead, behind in zip(chain, chain[1:]):
            expected[behind] = (behind, ahead, turned_back(kept[ahead]))
        expected[number] = (number, None, texts[number])
        self.assertEqual(pack.rows(), [expected[n] for n in sorted(expected)])
        self.check_whole(pack, texts)

    def test_two_versions(self):
        pack = Pack(1)
        pack.store("one two", None)
        pack.store("one 2", 0)
        pack.root(1)
        self.assertEqual(pack.rows(), [(0, 1, (4, "2", "two")), (1, None, "one 2")])
        pack.root(0)
        self.assertEqual(pack.rows(), [(0, None, "one two"), (1, 0, (4, "two", "2"))])

    def test_a_path(self):
        for bound in (4, 5, 1000):
            for number in range(5):
                pack = pack_of({n: n - 1 if n else None for n in range(5)}, bound)
                self.check_rooted(pack, number)
        pack = pack_of({n: n - 1 if n else None for n in range(5)}, 4)
        pack.root(4)
        self.assertEqual(pack.bases(), {0: 1, 1: 2, 2: 3, 3: 4, 4: None})

    def test_each_version_of_trees_with_branches(self):
        bases = {0: None, 1: 0, 2: 1, 3: 2, 4: 1, 5: 4, 6: 0, 7: 3, 8: 6,
                 10: None, 11: 10, 12: 10, 20: None}
        for number in bases:
            self.check_rooted(pack_of(bases, 7), number)

    def test_branches_on_the_chain_and_beside_it_stay(self):
        bases = {0: None, 1: 0, 2: 1, 3: 2, 4: 1, 5: 4, 6: 0, 7: 3}
        pack = pack_of(bases, 5)
        before = pack.rows()
        pack.root(3)
        self.assertEqual(pack.bases(), {0: 1, 1: 2, 2: 3, 3: None, 4: 1, 5: 4, 6: 0, 7: 3})
        self.assertEqual(pack.rows()[4:], before[4:])

    def test_bases_with_greater_numbers(self):
        bases = {0: 5, 1: 0, 2: 7, 5: 7, 7: None, 9: 1, 10 ** 12: 9}
        for number in bases:
            self.check_rooted(pack_of(bases, 6), number)

    def test_one_after_the_other(self):
        pack = pack_of({0: None, 1: 0, 2: 1, 3: 2, 4: 1, 5: 4, 6: 0, 8: None, 9: 8}, 6)
        for number in (3, 5, 0, 9, 6, 6, 3, 8, 1, 4):
            self.check_rooted(pack, number)

    def test_sixty_two_versions(self):
        bases = {n: n - 1 if n else None for n in range(62)}
        self.check_rooted(pack_of(bases, 61), 61)
        self.check_rooted(pack_of(bases, 1000), 30)


class TurnedTest(PackCase):
    """The kept changes are turned back, not made anew."""

    def pack(self):
        self.texts = {0: "aaab", 1: "aab", 2: "aabcc", 3: "aaaab", 4: "aabc"}
        rows = rows_of({0: None, 1: 0, 2: 1, 3: 1, 4: 2}, self.texts)
        for k, ahead, behind in ((1, 2, 1), (2, 3, 0), (3, 1, 1), (4, 2, 2)):
            number, base, change = rows[k]
            rows[k] = (number, base, longer(self.texts[base], change, ahead, behind))
        return rows, opened(rows, 4)

    def test_changes_that_are_longer_than_needed(self):
        rows, pack = self.pack()
        pack.root(2)
        self.assertEqual(pack.rows(), [
            (0, 1, turned_back(rows[1][2])), (1, 2, turned_back(rows[2][2])), (2, None, "aabcc"),
            rows[3], rows[4]])
        self.assertNotEqual(pack.rows()[0][2], plain_change("aab", "aaab"))
        self.check_whole(pack, self.texts)

    def test_a_change_that_stands_elsewhere_than_point_four_puts_it(self):
        # Between "aab" and "aaab" the a may be put in at three places.
        rows = [(0, None, "aab"), (1, 0, (0, "", "a"))]
        pack = opened(rows, 1)
        pack.root(1)
        self.assertEqual(pack.rows(), [(0, 1, (0, "a", "")), (1, None, "aaab")])
        self.check_whole(pack, {0: "aab", 1: "aaab"})

    def test_there_and_back_again(self):
        rows, pack = self.pack()
        for number in (4, 3, 2, 1, 0):
            pack.root(number)
        self.assertEqual(pack.rows(), rows)

    def test_within_store(self):
        rows = [(0, None, "aab"), (1, 0, (0, "", "a"))]
        pack = opened(rows, 1)
        self.assertEqual(pack.store("aaaab", 1), 2)
        self.assertEqual(pack.rows(), [(0, 1, (0, "a", "")), (1, None, "aaab"),
                                       (2, 1, plain_change("aaab", "aaaab"))])


class WholeTest(PackCase):
    def test_nothing_is_changed(self):
        for bound, bases in ((0, {0: None}), (1, {0: None, 1: 0, 2: 0}), (2, {0: 3, 1: 0, 3: None}),
                             (5, {0: None, 1: None, 2: 1, 3: 2, 4: 1})):
            pack = pack_of(bases, bound)
            before = state(pack)
            for number, base in bases.items():
                if base is None:
                    self.assertIsNone(pack.root(number))
                    self.assertEqual(state(pack), before)

    def test_longer_changes_stay_too(self):
        texts = {0: "aaab", 1: "aab"}
        change = longer("aaab", plain_change("aaab", "aab"), 2, 1)
        pack = opened([(0, None, "aaab"), (1, 0, change)], 1)
        pack.root(0)
        self.assertEqual(pack.rows(), [(0, None, "aaab"), (1, 0, change)])
        self.check_whole(pack, texts)


class TooFarTest(PackCase):
    def check_reach(self, bases, bound):
        """Each version is rooted or refused, as its reach is within the bound or beyond it."""
        texts = texts_for(bases)
        for number in bases:
            pack = pack_of(bases, bound, texts)
            if plain_reach(bases, number) > bound:
                self.check_refused_deed(pack, TooFar, "root", number)
            else:
                self.assertIsNone(pack.root(number))
                self.assertIsNone(pack.base(number))
                self.check_whole(pack, texts)

    def test_one_beyond_the_bound(self):
        # The reach of 2 is 3: over 1 and 0 to 3.
        bases = {0: None, 1: 0, 2: 1, 3: 0}
        self.check_refused_deed(pack_of(bases, 2), TooFar, "root", 2)
        pack = pack_of(bases, 3)
        pack.root(2)
        self.assertEqual(pack.bases(), {0: 1, 1: 2, 2: None, 3: 0})

    def test_bound_one(self):
        pack = pack_of({0: None, 1: 0, 2: 0}, 1)
        self.check_refused_deed(pack, TooFar, "root", 1)
        self.check_refused_deed(pack, TooFar, "root", 2)
        pack = pack_of({0: None, 1: 0}, 1)
        pack.root(1)
        self.assertEqual(pack.bases(), {0: 1, 1: None})

    def test_by_those_that_lean_on_it(self):
        # 5 leans on the whole one, but 4 is five changes away from 5.
        bases = {0: None, 1: 0, 2: 1, 3: 2, 4: 3, 5: 0, 6: 5}
        self.check_refused_deed(pack_of(bases, 4), TooFar, "root", 5)
        self.check_refused_deed(pack_of(bases, 5), TooFar, "root", 6)

    def test_other_trees_do_not_count(self):
        bases = {0: None, 1: 0, 2: None, 3: 2, 4: 3}
        pack = pack_of(bases, 2)
        pack.root(1)
        self.assertEqual(pack.bases(), {0: 1, 1: None, 2: None, 3: 2, 4: 3})

    def test_all_versions_of_several_shapes(self):
        for bases, least in (({0: None, 1: 0, 2: 1, 3: 2, 4: 0, 5: 4}, 3),
                             ({0: 1, 1: 2, 2: None, 3: 2, 4: 3}, 2),
                             ({n: n - 1 if n else None for n in range(8)}, 7),
                             ({n: 0 if n else None for n in range(8)}, 1),
                             ({0: None, 1: 0, 2: 1, 3: 1, 5: None, 6: 5, 7: 5}, 2)):
            for bound in range(least, least + 4):
                self.check_reach(bases, bound)

    def test_thirty_beyond_thirty(self):
        bases = {0: None}
        for number in range(1, 61):
            bases[number] = number - 2 if number > 2 else 0
        for bound in (30, 31, 59, 60):
            pack = pack_of(bases, bound)
            if bound < 60:
                self.check_refused_deed(pack, TooFar, "root", 60)
            else:
                pack.root(60)
                self.assertEqual(pack.chain(59)[-1], 60)

    def test_the_number_is_looked_for_first(self):
        pack = pack_of({0: None, 1: 0, 3: 0}, 1)
        for strange in (2, 4, -1, True, None, "1"):
            self.check_refused_deed(pack, NoVersion, "root", strange)


if __name__ == "__main__":
    unittest.main()

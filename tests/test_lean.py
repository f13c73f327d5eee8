"""Point 10: a version is told to lean on another one."""

import unittest

from packcase import PackCase, pack_of, texts_of
from packdelta.errors import InRing, NoVersion, TooFar
from packdelta.opening import opened
from packdelta.packs import Pack
from reckoning import longer, plain_change, rows_of


class LeanCase(PackCase):
    def check_leans(self, pack, number, other):
        """Lean, and hold each row against what it was."""
        before, texts = pack.rows(), texts_of(pack)
        expected = {row[0]: row for row in before}
        expected[number] = (number, other, plain_change(texts[other], texts[number]))
        self.assertIsNone(pack.lean(number, other))
        self.assertEqual(pack.rows(), [expected[n] for n in sorted(expected)])
        self.check_whole(pack, texts)


class LeanTest(LeanCase):
    def test_two_whole_versions(self):
        pack = Pack(1)
        pack.store("one two", None)
        pack.store("one 2", None)
        pack.lean(0, 1)
        self.assertEqual(pack.rows(), [(0, 1, (4, "2", "two")), (1, None, "one 2")])
        self.check_whole(pack, {0: "one two", 1: "one 2"})

    def test_a_whole_version_on_one_of_another_tree(self):
        bases = {0: None, 1: 0, 2: 1, 3: None, 4: 3, 5: 3, 6: 5}
        for other in (0, 1, 2):
            self.check_leans(pack_of(bases, 5), 3, other)
        for other in (3, 4, 5, 6):
            self.check_leans(pack_of(bases, 5), 0, other)

    def test_a_leaning_version_on_one_of_another_tree(self):
        bases = {0: None, 1: 0, 2: 1, 3: None, 4: 3, 5: 3, 6: 5}
        for number in (1, 2):
            for other in (3, 4, 5, 6):
                self.check_leans(pack_of(bases, 5), number, other)

    def test_a_leaning_version_on_one_of_its_own_tree(self):
        bases = {0: None, 1: 0, 2: 1, 3: 2, 4: 1, 5: 0}
        for number, other in ((3, 0), (3, 1), (3, 4), (3, 5), (2, 0), (2, 4), (2, 5), (1, 5),
                              (4, 3), (4, 0), (5, 1), (5, 2), (5, 3), (5, 4)):
            self.check_leans(pack_of(bases, 5), number, other)

    def test_what_leans_on_it_goes_on_leaning_on_it(self):
        texts = {0: "ab", 1: "abb", 2: "abbb", 3: "xabx", 4: "aab"}
        rows = rows_of({0: None, 1: 0, 2: 1, 3: None, 4: 1}, texts)
        rows[2] = (2, 1, longer(texts[1], rows[2][2], 2, 1))
        pack = opened(rows, 3)
        pack.lean(1, 3)
        self.assertEqual(pack.rows(), [rows[0], (1, 3, plain_change("xabx", "abb")), rows[2],
                                       rows[3], rows[4]])
        self.assertEqual(pack.chain(2), [2, 1, 3])
        self.check_whole(pack, texts)

    def test_on_its_own_base_its_change_is_made_anew(self):
        texts = {0: "aab", 1: "aaab"}
        for change in ((0, "", "a"), (0, "aab", "aaab"), (1, "", "a"), (1, "ab", "aab")):
            pack = opened([(0, None, "aab"), (1, 0, change)], 1)
            pack.lean(1, 0)
            self.assertEqual(pack.rows(), [(0, None, "aab"), (1, 0, (2, "", "a"))])
            self.check_whole(pack, texts)

    def test_on_its_own_base_with_the_bound_reached(self):
        pack = pack_of({0: None, 1: 0, 2: 1}, 2)
        before = pack.rows()
        pack.lean(1, 0)
        pack.lean(2, 1)
        self.assertEqual(pack.rows(), before)

    def test_great_numbers(self):
        far = 10 ** 12
        pack = pack_of({far: None, far + 1: far, 10 ** 30: None}, 3)
        self.check_leans(pack, far, 10 ** 30)
        self.check_leans(pack, far + 1, 10 ** 30)
        self.check_leans(pack, far, far + 1)

    def test_equal_and_empty_texts(self):
        pack = Pack(2)
        for text in ("", "abc", "abc", ""):
            pack.store(text, None)
        pack.lean(2, 1)
        pack.lean(3, 0)
        pack.lean(0, 1)
        self.assertEqual(pack.rows(), [(0, 1, (0, "abc", "")), (1, None, "abc"),
                                       (2, 1, (3, "", "")), (3, 0, (0, "", ""))])
        self.check_whole(pack, {0: "", 1: "abc", 2: "abc", 3: ""})


class InRingTest(LeanCase):
    def check_in_ring(self, bases, bound, number, other):
        self.check_refused_deed(pack_of(bases, bound), InRing, "lean", number, other)

    def test_both_are_one(self):
        bases = {0: None, 1: 0, 3: None}
        for number in bases:
            self.check_in_ring(bases, 1, number, number)
            self.check_in_ring(bases, 9, number, number)
        self.check_in_ring({0: None}, 0, 0, 0)

    def test_one_that_leans_on_it(self):
        bases = {0: None, 1: 0, 2: 1, 3: 2, 4: 1}
        for bound in (3, 4, 1000):
            for number, other in ((0, 1), (0, 2), (0, 3), (0, 4), (1, 2), (1, 3), (1, 4), (2, 3)):
                self.check_in_ring(bases, bound, number, other)

    def test_ahead_of_too_far(self):
        # Both would be refused: the chain is as long as the bound as it is.
        self.check_in_ring({0: None, 1: 0, 2: 1}, 2, 0, 2)
        self.check_in_ring({0: None, 1: 0}, 1, 1, 1)

    def test_bases_with_greater_numbers(self):
        bases = {0: 1, 1: 2, 2: None}
        for number, other in ((2, 0), (2, 1), (1, 0)):
            self.check_in_ring(bases, 2, number, other)

    def test_one_beside_it_is_no_ring(self):
        self.check_leans(pack_of({0: None, 1: 0, 2: 0}, 2), 1, 2)
        self.check_leans(pack_of({0: None, 1: 0, 2: 0}, 2), 2, 1)


class TooFarTest(LeanCase):
    def check_bound(self, bases, number, other, changes):
        """A bound of so many changes is just enough."""
        self.check_leans(pack_of(bases, changes), number, other)
        least = max(0, changes - 1)
        self.check_refused_deed(pack_of(bases, least), TooFar, "lean", number, other)

    def test_bound_nought(self):
        self.check_bound({0: None, 1: None}, 0, 1, 1)
        self.check_bound({0: None, 1: None}, 1, 0, 1)

    def test_by_its_own_chain(self):
        self.check_bound({0: None, 1: 0, 2: None}, 2, 1, 2)
        self.check_bound({0: None, 1: 0, 2: 1, 3: None}, 3, 2, 3)
        self.check_bound({0: None, 1: 0, 2: 1, 3: 0}, 3, 2, 3)
        self.check_bound({0: 1, 1: 2, 2: None, 3: None}, 3, 0, 3)

    def test_by_a_chain_of_one_that_leans_on_it(self):
        self.check_bound({0: None, 1: None, 2: 1}, 1, 0, 2)
        self.check_bound({0: None, 1: None, 2: 1, 3: 2}, 1, 0, 3)
        self.check_bound({0: None, 5: None, 4: 5, 3: 4}, 5, 0, 3)

    def test_by_both(self):
        bases = {0: None, 1: 0, 2: 1, 3: None, 4: 3, 5: 4, 6: 3}
        self.check_bound(bases, 3, 2, 5)
        self.check_bound(bases, 3, 1, 4)
        self.check_bound(bases, 0, 5, 5)
        self.check_bound(bases, 0, 6, 4)

    def test_the_longest_of_those_that_lean_on_it_counts(self):
        bases = {0: None, 1: 0, 2: None, 3: 2, 4: 2, 5: 4, 6: 5, 7: 2, 8: 7}
        self.check_bound(bases, 2, 0, 4)
        self.check_bound(bases, 2, 1, 5)

    def test_the_chain_that_it_leaves_does_not_count(self):
        bases = {0: None, 1: 0, 2: 1, 3: 2, 4: 3, 5: None}
        pack = pack_of(bases, 4)
        self.check_leans(pack, 3, 5)
        self.check_leans(pack, 4, 5)
        self.assertEqual(pack.bases(), {0: None, 1: 0, 2: 1, 3: 5, 4: 5, 5: None})

    def test_long_chains(self):
        bases = {n: n - 1 if n not in (0, 30) else None for n in range(60)}
        self.check_bound(bases, 30, 29, 59)
        self.check_bound(bases, 30, 0, 30)
        self.check_bound(bases, 0, 59, 59)


class RefusedTest(LeanCase):
    def test_the_numbers_are_looked_for_first(self):
        pack = pack_of({0: None, 1: 0, 2: 1, 4: None, 5: 4}, 2)
        pack.forget(5)
        for strange in (3, 5, 6, -1, 10 ** 30, True, False, None, "0", (0,), [0], {}):
            self.check_refused_deed(pack, NoVersion, "lean", strange, strange)
            self.check_refused_deed(pack, NoVersion, "lean", strange, 2)
            self.check_refused_deed(pack, NoVersion, "lean", 4, strange)


if __name__ == "__main__":
    unittest.main()

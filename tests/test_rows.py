"""Points 12 and 13: rows, the weight, and opening."""

import copy
import unittest

from packcase import PackCase, coming, pack_of, state, texts_of
from packdelta.errors import BadRows
from packdelta.opening import opened
from packdelta.packs import Pack
from reckoning import SIGNS, Dice, longer, plain_change, rows_of, texts_for

FAR = 10 ** 12

BASES = {0: None, 1: 0, 2: 1, 3: 1, 4: None, 5: 4, 6: 7, 7: 5}


class RowsTest(PackCase):
    """Point 12: rows."""

    def test_of_whole_and_of_leaning_versions(self):
        pack = Pack(3)
        pack.store("one two", None)
        pack.store("one 2", 0)
        pack.store("", None)
        pack.store("one 2\n", 1)
        self.assertEqual(pack.rows(), [(0, None, "one two"), (1, 0, (4, "two", "2")),
                                       (2, None, ""), (3, 1, (5, "", "\n"))])

    def test_the_kinds(self):
        rows = pack_of(BASES, 4).rows()
        self.assertIs(type(rows), list)
        for row in rows:
            self.assertIs(type(row), tuple)
            number, base, kept = row
            self.assertIs(type(number), int)
            if base is None:
                self.assertIs(type(kept), str)
            else:
                self.assertIs(type(base), int)
                self.assertEqual([type(part) for part in kept], [int, str, str])
                self.assertIs(type(kept), tuple)

    def test_by_rising_numbers(self):
        pack = pack_of({0: 9, 3: 0, 5: 3, 9: None, FAR: 3}, 3)
        pack.root(5)
        pack.lean(9, 3)
        pack.store("x", None)
        self.assertEqual([row[0] for row in pack.rows()], [0, 3, 5, 9, FAR, FAR + 1])


class WeightTest(PackCase):
    """Point 12: the weight."""

    def test_of_whole_versions(self):
        pack = Pack(0)
        self.assertEqual(pack.weight(), 0)
        pack.store("", None)
        self.assertEqual(pack.weight(), 0)
        pack.store("abc", None)
        pack.store("abc", None)
        pack.store("a\n\t ", None)
        self.assertEqual(pack.weight(), 10)

    def test_of_changes(self):
        pack = Pack(9)
        pack.store("abcdef", None)
        pack.store("abxyzef", 0)
        self.assertEqual(pack.weight(), 6 + 2 + 3)
        pack.store("abxyzef", 1)
        self.assertEqual(pack.weight(), 11)
        pack.store("", 1)
        self.assertEqual(pack.weight(), 11 + 7)
        pack.root(3)
        self.assertEqual(pack.weight(), 0 + 7 + 5 + 0)
        pack.forget(1)
        self.assertEqual(pack.rows(), [(0, 3, (0, "", "abcdef")), (2, 3, (0, "", "abxyzef")),
                                       (3, None, "")])
        self.assertEqual(pack.weight(), 13)
        pack.lean(2, 0)
        self.assertEqual(pack.weight(), 6 + 5)

    def test_of_longer_changes(self):
        pack = opened([(0, None, "abc"), (1, 0, (0, "abc", "axc"))], 1)
        self.assertEqual(pack.weight(), 9)
        pack.lean(1, 0)
        self.assertEqual(pack.weight(), 5)

    def test_places_and_numbers_do_not_count(self):
        text = Dice(1).text(2200)
        pack = opened([(FAR, None, text), (FAR + 1, FAR, (2199, text[2199], ""))], 1)
        self.assertEqual(pack.weight(), 2201)
        self.assertIs(type(pack.weight()), int)


class OpenedTest(PackCase):
    """Point 13: rows of a pack."""

    def check_opened(self, rows, bound, texts):
        handed = copy.deepcopy(rows)
        pack = opened(handed, bound)
        self.assertIs(type(pack), Pack)
        self.assertEqual(handed, rows)
        self.assertEqual(pack.rows(), rows)
        self.assertEqual(pack.bound, bound)
        self.assertEqual(coming(pack), rows[-1][0] + 1 if rows else 0)
        self.check_whole(pack, texts)
        return pack

    def test_no_rows(self):
        for bound in (0, 1, 1000):
            pack = self.check_opened([], bound, {})
            self.assertEqual(pack.store("a", None), 0)

    def test_one_whole_version(self):
        for number in (0, 1, 5, FAR, 10 ** 30):
            pack = self.check_opened([(number, None, "abc")], 0, {number: "abc"})
            self.assertEqual(pack.store("a", None), number + 1)

    def test_rows_of_several_trees(self):
        texts = texts_for(BASES)
        for bound in (3, 4, 1000):
            self.check_opened(rows_of(BASES, texts), bound, texts)

    def test_rows_with_great_numbers_and_gaps(self):
        bases = {3: FAR, 7: 3, FAR: None, FAR + 5: 10 ** 30, 10 ** 30: FAR}
        texts = texts_for(bases)
        pack = self.check_opened(rows_of(bases, texts), 2, texts)
        self.assertEqual(pack.store("new", 3), 10 ** 30 + 1)

    def test_long_texts(self):
        bases = {n: n - 1 if n else None for n in range(62)}
        texts = texts_for(bases, 3, 2100)
        self.check_opened(rows_of(bases, texts), 61, texts)

    def test_texts_of_all_signs(self):
        texts = {0: SIGNS, 1: SIGNS[:50] + "\n\t" + SIGNS[50:], 2: ""}
        self.check_opened(rows_of({0: None, 1: 0, 2: 1}, texts), 2, texts)

    def test_longer_changes_stay_as_they_are(self):
        texts = texts_for(BASES)
        rows = [(n, base, kept if base is None else longer(texts[base], kept, 3, 2))
                for n, base, kept in rows_of(BASES, texts)]
        pack = self.check_opened(rows, 3, texts)
        pack.store("x", None)
        self.assertEqual(pack.rows()[:-1], rows)

    def test_changes_at_another_place_stay_as_they_are(self):
        rows = [(0, None, "aab"), (1, 0, (0, "", "a")), (2, 0, (0, "aab", "aab")),
                (3, 2, (1, "", "")), (4, 3, (3, "", ""))]
        self.check_opened(rows, 3, {0: "aab", 1: "aaab", 2: "aab", 3: "aab", 4: "aab"})

    def test_the_next_number_is_that_of_the_rows(self):
        pack = Pack(2)
        for text in ("a", "b", "c"):
            pack.store(text, None)
        pack.forget(2)
        other = opened(pack.rows(), 2)
        self.assertEqual((coming(pack), coming(other)), (3, 2))
        pack.forget(0)
        pack.forget(1)
        self.assertEqual((coming(pack), coming(opened(pack.rows(), 2))), (3, 0))

    def test_the_rows_of_a_pack_behind_many_deeds(self):
        pack = Pack(3)
        for number in range(12):
            pack.store(Dice(number // 4).text(5, "ab"), number - 1 if number else None)
        pack.root(8)
        pack.forget(6)
        pack.forget(9)
        other = self.check_opened(pack.rows(), 3, texts_of(pack))
        self.assertEqual(texts_of(other), texts_of(pack))

    def test_two_packs_of_the_same_rows_have_nothing_in_common(self):
        rows = pack_of(BASES, 4).rows()
        one, other = opened(rows, 4), opened(rows, 4)
        third = opened(one.rows(), 4)
        before = state(other)
        one.root(2)
        one.forget(0)
        one.store("new", 4)
        one.lean(5, 2)
        self.assertEqual(state(other), before)
        self.assertEqual(state(third), before)
        third.forget(4)
        self.assertEqual(state(other), before)
        self.assertEqual(one.read(8), "new")

    def test_another_bound_than_that_of_the_first_pack(self):
        rows = pack_of(BASES, 4).rows()
        self.assertEqual(opened(rows, 3).bound, 3)
        pack = opened(rows, 3)
        self.assertEqual(pack.store("new", 6), 8)
        self.assertEqual(pack.bases(), {0: None, 1: 0, 2: 1, 3: 1, 4: 5, 5: 7, 6: 7, 7: None, 8: 6})
        self.check_refused(BadRows, opened, rows, 2)


class BadRowsTest(PackCase):
    """Point 13: rows of no pack."""

    def check_bad(self, rows, bound=1000):
        handed = copy.deepcopy(rows)
        with self.subTest(rows=rows, bound=bound):
            self.check_refused(BadRows, opened, handed, bound)
            self.assertEqual(handed, rows)

    def test_a_number_twice(self):
        self.check_bad([(0, None, "a"), (0, None, "a")])
        self.check_bad([(0, None, "a"), (3, None, "b"), (3, None, "c")])
        self.check_bad([(0, None, "a"), (1, 0, (0, "", "")), (1, 0, (0, "", ""))])
        self.check_bad([(FAR, None, "a"), (FAR, None, "a")])

    def test_numbers_that_fall(self):
        self.check_bad([(1, None, "a"), (0, None, "a")])
        self.check_bad([(0, None, "a"), (2, 0, (0, "", "")), (1, 0, (0, "", ""))])
        self.check_bad([(0, None, "a"), (2, None, "a"), (3, None, "b"), (1, None, "c")])
        self.check_bad([(10 ** 30, None, "a"), (FAR, None, "a")])

    def test_a_first_number_below_nought(self):
        for number in (-1, -2, -FAR, -(10 ** 30)):
            self.check_bad([(number, None, "a")])
            self.check_bad([(number, None, "a"), (0, None, "b")])
            self.check_bad([(number, None, "a"), (0, number, (0, "", "b"))])
        self.check_bad([(-2, None, "a"), (-1, None, "b"), (0, None, "c")])

    def test_a_base_that_is_the_version_itself(self):
        self.check_bad([(0, 0, (0, "", ""))])
        self.check_bad([(0, None, "a"), (1, 1, (0, "", ""))])
        self.check_bad([(0, None, "a"), (1, 1, (0, "", "")), (2, 1, (0, "", ""))])

    def test_a_base_that_is_no_number_of_a_row(self):
        for base in (2, -1, 5, FAR, 10 ** 30):
            self.check_bad([(0, None, "a"), (1, base, (0, "", ""))])
            self.check_bad([(0, base, (0, "", "")), (1, None, "a")])
            self.check_bad([(0, None, "a"), (1, 0, (0, "", "")), (3, base, (0, "", ""))])
        self.check_bad([(0, 1, (0, "", ""))])

    def test_true_and_false_are_no_numbers_of_rows(self):
        self.check_bad([(0, None, "a"), (1, False, (0, "", ""))])
        self.check_bad([(0, None, "a"), (1, None, "a"), (2, True, (0, "", ""))])

    def test_rings(self):
        for bound in (0, 1, 2, 3, 62, 1000):
            self.check_bad([(0, 1, (0, "", "")), (1, 0, (0, "", ""))], bound)
            self.check_bad([(0, 2, (0, "", "")), (1, 0, (0, "", "")), (2, 1, (0, "", ""))], bound)
            self.check_bad([(0, None, "a"), (1, 2, (0, "", "")), (2, 1, (0, "", "")),
                            (3, None, "b")], bound)
            # The first version is in no ring itself, but leads into one.
            self.check_bad([(0, 1, (0, "", "")), (1, 2, (0, "", "")), (2, 1, (0, "", ""))], bound)

    def test_a_ring_of_all(self):
        rows = [(n, (n + 1) - (n + 1) // 62 * 62, (0, "", "")) for n in range(62)]
        self.check_bad(rows, 61)
        self.check_bad(rows, 1000)

    def test_a_chain_of_one_change_more_than_the_bound(self):
        for many in (1, 2, 3, 4, 10, 61):
            rising = {n: n - 1 if n else None for n in range(many + 1)}
            falling = {n: n + 1 if n < many else None for n in range(many + 1)}
            for bases in (rising, falling):
                rows = rows_of(bases, texts_for(bases))
                self.check_bad(rows, many - 1)
                self.assertEqual(opened(rows, many).rows(), rows)

    def test_the_longest_chain_counts(self):
        bases = {0: None, 1: 0, 2: 1, 3: 2, 4: 0, 5: None, 6: 5}
        rows = rows_of(bases, texts_for(bases))
        self.check_bad(rows, 2)
        self.assertEqual(opened(rows, 3).rows(), rows)

    def test_bound_nought(self):
        self.check_bad([(0, None, "a"), (1, 0, (1, "", ""))], 0)
        rows = [(0, None, "a"), (1, None, "a")]
        self.assertEqual(opened(rows, 0).rows(), rows)

    BAD_CHANGES = ((4, "", ""), (4, "", "x"), (3, "a", ""), (-1, "", ""), (-1, "c", ""),
                   (-3, "abc", ""), (0, "b", ""), (1, "bx", "bc"), (1, "bcd", ""), (2, "cc", ""),
                   (0, "abcd", "abc"), (FAR, "", ""), (10 ** 5000, "", ""), (0, "ABC", ""))

    def test_a_change_that_does_not_fit(self):
        for change in self.BAD_CHANGES:
            self.check_bad([(0, None, "abc"), (1, 0, change)])
            self.check_bad([(0, 1, change), (1, None, "abc")])
            self.check_bad([(0, None, "x"), (1, None, "abc"), (2, 1, change), (3, None, "y")])

    def test_a_change_that_does_not_fit_further_on_in_a_chain(self):
        for change in self.BAD_CHANGES:
            self.check_bad([(0, None, "a"), (1, 0, (1, "", "bc")), (2, 1, change)])
            self.check_bad([(0, 1, change), (1, 2, (0, "", "a")), (2, 3, (0, "", "b")),
                            (3, None, "c")])
            self.check_bad([(0, None, "abc"), (1, 0, change), (2, 1, (0, "", ""))])

    def test_a_change_that_fits_the_text_of_another_only(self):
        self.check_bad([(0, None, "abc"), (1, 0, (1, "b", "x")), (2, 1, (1, "b", "y"))])
        rows = [(0, None, "abc"), (1, 0, (1, "b", "x")), (2, 0, (1, "b", "y"))]
        self.assertEqual(opened(rows, 1).rows(), rows)

    def test_several_at_once(self):
        self.check_bad([(-1, -1, (0, "", "")), (-1, 5, (9, "x", ""))], 0)
        self.check_bad([(1, 0, (7, "x", "")), (0, 1, (7, "x", ""))], 1)
        self.check_bad([(0, 1, (9, "x", "")), (1, 0, (9, "x", ""))], 3)

    def test_a_refusal_leaves_the_next_call_as_it_was(self):
        rows = [(0, None, "abc"), (1, 0, (1, "b", "x"))]
        pack = opened(rows, 1)
        before = state(pack)
        self.check_bad([(0, None, "abc"), (1, 0, (1, "x", "b"))])
        self.assertEqual(state(pack), before)
        self.assertEqual(opened(rows, 1).rows(), rows)


class ChangesOfRowsTest(PackCase):
    """A pack that was opened goes on as any other."""

    def test_stored_beside_versions_of_the_rows(self):
        pack = opened([(4, None, "abc"), (7, 4, (0, "abc", "abcd"))], 2)
        self.assertEqual(pack.store("abcde", 7), 8)
        self.assertEqual(pack.rows(), [(4, None, "abc"), (7, 4, (0, "abc", "abcd")),
                                       (8, 7, plain_change("abcd", "abcde"))])
        self.assertEqual(pack.store("abcdef", 8), 9)
        self.assertEqual(pack.rows(), [(4, 7, (0, "abcd", "abc")),
                                       (7, 8, plain_change("abcde", "abcd")), (8, None, "abcde"),
                                       (9, 8, plain_change("abcde", "abcdef"))])


if __name__ == "__main__":
    unittest.main()

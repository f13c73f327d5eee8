"""Point 11: a version is forgotten."""

import unittest

from packcase import PackCase, coming, pack_of, texts_of
from packdelta.errors import NoVersion
from packdelta.opening import opened
from packdelta.packs import Pack
from reckoning import longer, plain_change, rows_of


class ForgetTest(PackCase):
    def check_forgotten(self, pack, number):
        """Forget, and hold each row against what it was."""
        before, texts, next_number = pack.rows(), texts_of(pack), coming(pack)
        expected = {row[0]: row for row in before}
        base = expected.pop(number)[1]
        behind = [n for n in sorted(expected) if expected[n][1] == number]
        if base is None and behind:
            base = behind[0]
            expected[base] = (base, None, texts[base])
            behind = behind[1:]
        for n in behind:
            expected[n] = (n, base, plain_change(texts[base], texts[n]))
        self.assertIsNone(pack.forget(number))
        self.assertEqual(pack.rows(), [expected[n] for n in sorted(expected)])
        self.assertEqual(coming(pack), next_number)
        del texts[number]
        self.check_whole(pack, texts)
        self.check_refused_deed(pack, NoVersion, "read", number)
        self.check_refused_deed(pack, NoVersion, "forget", number)

    def test_a_whole_one_alone(self):
        self.check_forgotten(pack_of({0: None}, 0), 0)
        self.check_forgotten(pack_of({0: None, 4: None, 5: 4}, 1), 0)

    def test_a_leaning_one_on_which_none_leans(self):
        self.check_forgotten(pack_of({0: None, 1: 0, 2: 0, 3: 1}, 2), 3)
        self.check_forgotten(pack_of({0: None, 1: 0, 2: 0, 3: 1}, 2), 2)

    def test_a_leaning_one_between_two(self):
        pack = Pack(2)
        for number, text in enumerate(("abcd", "abxd", "abxyd")):
            pack.store(text, number - 1 if number else None)
        pack.forget(1)
        self.assertEqual(pack.rows(), [(0, None, "abcd"), (2, 0, (2, "c", "xy"))])
        self.check_whole(pack, {0: "abcd", 2: "abxyd"})

    def test_a_leaning_one_on_which_several_lean(self):
        bases = {0: None, 1: 0, 2: 1, 3: 1, 4: 3, 5: 2, 6: 1, 7: 6, 8: None, 9: 8}
        for number in bases:
            self.check_forgotten(pack_of(bases, 4), number)

    def test_a_whole_one_on_which_one_leans(self):
        pack = Pack(2)
        for number, text in enumerate(("abcd", "abxd", "abxyd")):
            pack.store(text, number - 1 if number else None)
        pack.forget(0)
        self.assertEqual(pack.rows(), [(1, None, "abxd"), (2, 1, (3, "", "y"))])
        self.check_whole(pack, {1: "abxd", 2: "abxyd"})

    def test_a_whole_one_on_which_several_lean(self):
        pack = Pack(1)
        for number, text in enumerate(("abcd", "abxd", "abyd", "zbcd")):
            pack.store(text, 0 if number else None)
        pack.forget(0)
        self.assertEqual(pack.rows(), [(1, None, "abxd"), (2, 1, (2, "x", "y")),
                                       (3, 1, (0, "abx", "zbc"))])
        self.check_whole(pack, {1: "abxd", 2: "abyd", 3: "zbcd"})

    def test_the_least_number_of_those_that_lean_on_it(self):
        # Lesser numbers are in other trees, or lean on it by two steps.
        bases = {0: 3, 1: 0, 2: 1, 3: 9, 4: 9, 5: 9, 6: None, 7: 6, 9: None}
        for number in bases:
            self.check_forgotten(pack_of(bases, 4), number)
        pack = pack_of(bases, 4)
        pack.forget(9)
        self.assertEqual(pack.bases(), {0: 3, 1: 0, 2: 1, 3: None, 4: 3, 5: 3, 6: None, 7: 6})

    def test_great_numbers(self):
        far = 10 ** 12
        bases = {3: far, far: 10 ** 30, far + 4: 10 ** 30, far + 7: far, 10 ** 30: None}
        for number in bases:
            self.check_forgotten(pack_of(bases, 2), number)

    def test_with_the_bound_reached_no_chain_is_too_long(self):
        bases = {0: None, 1: 0, 2: 1, 3: 2, 4: 0, 5: 4, 6: 5}
        for number in bases:
            self.check_forgotten(pack_of(bases, 3), number)

    def test_long_chains(self):
        bases = {n: n - 1 if n else None for n in range(62)}
        for number in (0, 1, 30, 61):
            self.check_forgotten(pack_of(bases, 61), number)


class ChangesTest(PackCase):
    """Which changes are made anew, and which stay."""

    TEXTS = {0: "aab", 1: "aaab", 2: "aaaab", 3: "aaaaab", 4: "aac", 5: "aacc"}
    BASES = {0: None, 1: 0, 2: 1, 3: 2, 4: 0, 5: 4}

    def long_rows(self):
        rows = rows_of(self.BASES, self.TEXTS)
        return [(n, base, kept if base is None else longer(self.TEXTS[base], kept, 2, 2))
                for n, base, kept in rows]

    def test_those_that_lean_on_another_do_so_by_point_four(self):
        rows = self.long_rows()
        pack = opened(rows, 3)
        pack.forget(1)
        self.assertEqual(pack.rows(), [rows[0], (2, 0, (2, "", "aa")), rows[3], rows[4], rows[5]])

    def test_behind_a_whole_one_too(self):
        rows = self.long_rows()
        pack = opened(rows, 3)
        pack.forget(0)
        self.assertEqual(pack.rows(), [(1, None, "aaab"), rows[2], rows[3],
                                       (4, 1, (2, "ab", "c")), rows[5]])

    def test_behind_the_last_of_a_chain_all_stay(self):
        rows = self.long_rows()
        pack = opened(rows, 3)
        pack.forget(5)
        pack.forget(3)
        self.assertEqual(pack.rows(), [rows[0], rows[1], rows[2], rows[4]])


class NumbersTest(PackCase):
    def test_a_version_stored_behind_it_has_a_new_number(self):
        for forgotten in range(4):
            pack = pack_of({0: None, 1: 0, 2: 0, 3: 2}, 3)
            pack.forget(forgotten)
            self.assertEqual(pack.store("new", None), 4)
            self.assertEqual(pack.numbers(), [n for n in range(5) if n != forgotten])

    def test_until_the_pack_is_empty(self):
        pack = pack_of({0: None, 1: 0, 2: 0, 3: 2}, 3)
        texts = texts_of(pack)
        for number in (0, 3, 1, 2):
            pack.forget(number)
            del texts[number]
            self.check_whole(pack, texts)
        self.assertEqual((pack.rows(), pack.numbers(), pack.bases()), ([], [], {}))
        self.assertEqual((pack.weight(), pack.bound), (0, 3))
        self.assertEqual(pack.store("new", None), 4)
        self.assertEqual(pack.store("newer", 4), 5)
        self.assertEqual(pack.rows(), [(4, None, "new"), (5, 4, (3, "", "er"))])

    def test_no_longer_counts_for_reach_and_chains(self):
        pack = pack_of({0: None, 1: 0, 2: 1}, 2)
        pack.forget(1)
        self.assertEqual(pack.store("new", 2), 3)
        self.assertEqual(pack.chain(3), [3, 2, 0])
        pack.forget(3)
        pack.root(2)
        self.assertEqual(pack.bases(), {0: 2, 2: None})


class RefusedTest(PackCase):
    def test_what_is_not_kept(self):
        pack = pack_of({0: None, 1: 0, 2: 0, 3: 2}, 3)
        pack.forget(1)
        for strange in (1, 4, -1, 10 ** 30, True, False, None, "0", (0,), [0], {0: 0}):
            self.check_refused_deed(pack, NoVersion, "forget", strange)


if __name__ == "__main__":
    unittest.main()

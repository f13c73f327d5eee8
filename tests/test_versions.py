"""Points 5, 6 and 14: numbers, chains, the bound, and what is no version's number."""

import unittest

from packcase import PackCase, coming, pack_of
from packdelta.errors import BadBound, NoVersion
from packdelta.opening import opened
from packdelta.packs import Pack

FAR = 10 ** 12


class NumbersTest(PackCase):
    """Point 5: numbers."""

    def test_an_empty_pack(self):
        for bound in (0, 1, 1000):
            pack = Pack(bound)
            self.assertEqual((pack.numbers(), pack.bases(), pack.rows()), ([], {}, []))
            self.assertEqual((pack.weight(), pack.bound), (0, bound))

    def test_from_nought_on_as_they_are_stored(self):
        pack = Pack(3)
        numbers = [pack.store("a", None), pack.store("b", 0), pack.store("c", None),
                   pack.store("d", 1), pack.store("e", 0)]
        self.assertEqual(numbers, [0, 1, 2, 3, 4])
        self.assertEqual(pack.numbers(), numbers)
        self.assertEqual([type(number) for number in numbers], [int] * 5)

    def test_equal_texts_have_numbers_of_their_own(self):
        pack = Pack(2)
        self.assertEqual([pack.store("a", None), pack.store("a", None), pack.store("a", 0)],
                         [0, 1, 2])

    def test_no_number_is_used_twice(self):
        pack = Pack(2)
        for number in range(4):
            self.assertEqual(pack.store("a", None), number)
        pack.forget(1)
        self.assertEqual(pack.store("b", None), 4)
        pack.forget(0)
        self.assertEqual(pack.store("c", 2), 5)
        self.assertEqual(pack.numbers(), [2, 3, 4, 5])

    def test_the_last_number_is_not_used_twice(self):
        pack = Pack(2)
        pack.store("a", None)
        pack.store("b", 0)
        pack.forget(1)
        self.assertEqual(pack.store("c", 0), 2)
        pack.forget(2)
        pack.forget(0)
        self.assertEqual(pack.numbers(), [])
        self.assertEqual(pack.store("d", None), 3)
        self.assertEqual(pack.rows(), [(3, None, "d")])

    def test_other_deeds_use_up_no_number(self):
        pack = Pack(3)
        pack.store("a", None)
        pack.store("b", 0)
        pack.root(1)
        pack.lean(0, 1)
        pack.rows()
        pack.read(0)
        self.assertEqual(pack.store("c", None), 2)

    def test_packs_have_nothing_in_common(self):
        one, other = Pack(2), Pack(5)
        one.store("a", None)
        one.store("b", 0)
        self.assertEqual(other.numbers(), [])
        self.assertEqual(other.store("c", None), 0)
        self.assertEqual(one.read(0), "a")
        self.assertEqual((one.bound, other.bound), (2, 5))


class ChainsTest(PackCase):
    """Points 5 and 6: bases and chains."""

    def test_base_and_chain(self):
        pack = Pack(5)
        pack.store("a", None)
        pack.store("ab", 0)
        pack.store("abc", 1)
        pack.store("b", 0)
        pack.store("x", None)
        self.assertEqual([pack.base(n) for n in range(5)], [None, 0, 1, 0, None])
        self.assertEqual([pack.chain(n) for n in range(5)], [[0], [1, 0], [2, 1, 0], [3, 0], [4]])
        self.assertEqual(pack.bases(), {0: None, 1: 0, 2: 1, 3: 0, 4: None})

    def test_a_version_is_kept_whole_or_as_a_change(self):
        pack = Pack(5)
        pack.store("one two three", None)
        pack.store("one 2 three", 0)
        self.assertEqual(pack.rows(), [(0, None, "one two three"), (1, 0, (4, "two", "2"))])
        self.assertEqual([pack.read(0), pack.read(1)], ["one two three", "one 2 three"])

    def test_bases_with_greater_numbers(self):
        pack = pack_of({0: 4, 1: 0, 2: 4, 4: 9, 9: None}, 3)
        self.assertEqual(pack.chain(1), [1, 0, 4, 9])
        self.assertEqual(list(pack.bases().items()), [(0, 4), (1, 0), (2, 4), (4, 9), (9, None)])
        self.assertEqual(pack.base(4), 9)

    def test_the_keys_of_bases_rise_behind_all_deeds(self):
        pack = pack_of({0: None, 1: 0, 2: 1, 3: 2, 7: None}, 4)
        pack.root(3)
        pack.forget(1)
        pack.lean(3, 7)
        pack.store("x", 0)
        self.assertEqual(list(pack.bases()), [0, 2, 3, 7, 8])
        self.assertEqual(pack.numbers(), [0, 2, 3, 7, 8])
        self.assertEqual([row[0] for row in pack.rows()], [0, 2, 3, 7, 8])


class NoVersionTest(PackCase):
    """Point 5: what is not the number of a kept version."""

    def pack(self):
        """Versions 0, 1, 2 and 4 and 5 are kept, number 3 was forgotten."""
        pack = Pack(2)
        pack.store("a", None)
        pack.store("ab", 0)
        pack.store("abc", 1)
        pack.store("abcd", 0)
        pack.store("x", None)
        pack.store("xy", 4)
        pack.forget(3)
        return pack

    # The forgotten number, the next one, others that are none, and other kinds of values.
    STRANGE = (3, 6, 7, -1, -2, -6, 10 ** 12, 10 ** 30, -(10 ** 30), 10 ** 5000, True, False,
               0.0, 1.0, 1.5, 1j, "", "0", "1", "a", b"0", (), (0,), (0, 1), [], [0], {}, {0: 0},
               {0}, frozenset([0]), range(1), Pack, object())

    def test_of_one_number(self):
        for strange in self.STRANGE + (None,):
            for deed in ("read", "base", "chain", "root", "forget"):
                self.refused(deed, strange)

    def test_of_what_is_stored_beside(self):
        for strange in self.STRANGE:
            self.refused("store", "abc", strange)

    def test_of_leaning(self):
        for strange in self.STRANGE + (None,):
            self.refused("lean", strange, 0)
            self.refused("lean", 0, strange)
            self.refused("lean", 5, strange)
            self.refused("lean", strange, strange)

    def test_of_leaning_with_two_that_are_none(self):
        for one in (3, 6, -1, True, None, "0", [0], {}):
            for other in (3, 7, -2, False, None, "1", [1], {0: 0}):
                self.refused("lean", one, other)

    def refused(self, deed, *handed):
        self.check_refused_deed(self.pack(), NoVersion, deed, *handed)

    def test_in_an_empty_pack(self):
        for strange in (0, 1, -1, True, False, "", [], {}):
            for deed in ("read", "base", "chain", "root", "forget"):
                self.check_refused_deed(Pack(1), NoVersion, deed, strange)
            self.check_refused_deed(Pack(1), NoVersion, "store", "a", strange)
            self.check_refused_deed(Pack(1), NoVersion, "lean", strange, strange)

    def test_ahead_of_too_far(self):
        pack = pack_of({0: None, 1: 0, 2: 0, 5: None, 6: 5}, 1)
        self.check_refused_deed(pack, NoVersion, "root", 3)
        self.check_refused_deed(pack, NoVersion, "lean", 3, 6)
        self.check_refused_deed(pack, NoVersion, "lean", 0, 4)

    def test_great_numbers(self):
        pack = pack_of({FAR: None, FAR + 2: FAR}, 1)
        for strange in (0, 1, FAR - 1, FAR + 1, FAR + 3, -FAR):
            self.check_refused_deed(pack, NoVersion, "read", strange)
            self.check_refused_deed(pack, NoVersion, "store", "", strange)
            self.check_refused_deed(pack, NoVersion, "lean", FAR, strange)
        self.assertEqual(pack.base(FAR + 2), FAR)
        self.assertEqual(coming(pack), FAR + 3)

    def test_each_number_that_is_kept_is_one(self):
        pack = self.pack()
        for number in (0, 1, 2, 4, 5):
            pack.read(number)
            pack.base(number)
            pack.chain(number)
        self.assertEqual(pack.store("", 5), 6)


class BadBoundTest(PackCase):
    """Point 14."""

    BAD = (-1, -2, 1001, 1002, 10 ** 12, 10 ** 30, -(10 ** 30), 10 ** 5000, True, False, None,
           "", "5", 5.0, 1.5, b"5", (), (5,), [], [5], {}, {5: 5}, Pack)

    def test_of_a_pack(self):
        for bound in self.BAD:
            with self.subTest(kind=type(bound)):
                self.check_refused(BadBound, Pack, bound)

    def test_of_opening(self):
        for bound in self.BAD:
            for rows in ([], [(0, None, "a")], [(0, None, "a"), (1, 0, (1, "", "b"))]):
                with self.subTest(kind=type(bound), rows=rows):
                    self.check_refused(BadBound, opened, rows, bound)

    def test_ahead_of_bad_rows(self):
        for bound in self.BAD:
            for rows in ([(-1, None, "a")], [(0, 0, (0, "", ""))], [(0, 1, (0, "", ""))],
                         [(1, None, "a"), (1, None, "a")], [(0, None, "a"), (1, 0, (5, "x", ""))]):
                with self.subTest(kind=type(bound), rows=rows):
                    self.check_refused(BadBound, opened, rows, bound)

    def test_bounds(self):
        for bound in (0, 1, 2, 500, 999, 1000):
            for pack in (Pack(bound), opened([], bound), opened([(3, None, "a")], bound)):
                self.assertEqual(pack.bound, bound)
                self.assertIs(type(pack.bound), int)
                self.assertEqual(pack.read(pack.store("b", None)), "b")


if __name__ == "__main__":
    unittest.main()

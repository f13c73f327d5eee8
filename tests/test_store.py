"""Point 8: storing, with the rooting that belongs to it (point 9)."""

import unittest

from packcase import PackCase, pack_of, texts_of
from packdelta.errors import NoVersion
from packdelta.opening import opened
from packdelta.packs import Pack
from reckoning import SIGNS, Dice, Reckoned, longer, plain_change, rows_of


def line(number):
    """A text that differs from that of each other number."""
    return "version " + "abcdefgh"[number // 8] + "abcdefgh"[number % 8] + " of a text\n"


def turned_row(row):
    """The change of the row, turned back."""
    at, gone, come = row[2]
    return (at, come, gone)


def paths(bound, many):
    """A pack and its reckoning, with versions that are stored beside the last one each."""
    pack, reckoned = Pack(bound), Reckoned(bound)
    for number in range(many):
        for one in (pack, reckoned):
            one.store(line(number), number - 1 if number else None)
    return pack, reckoned


class WholeTest(PackCase):
    def test_told_none(self):
        for bound in (0, 1, 1000):
            pack = Pack(bound)
            texts = {}
            for number, text in enumerate(("a", "", "a\n\tb", SIGNS, "a")):
                self.assertEqual(pack.store(text, None), number)
                texts[number] = text
                self.check_whole(pack, texts)
            self.assertEqual(pack.rows(), [(n, None, texts[n]) for n in range(5)])

    def test_bound_nought_keeps_each_version_whole(self):
        pack = Pack(0)
        texts = {0: "a", 1: "ab", 2: "abc", 3: "", 4: "abc"}
        for number, beside in enumerate((None, 0, 1, 0, 2)):
            self.assertEqual(pack.store(texts[number], beside), number)
        self.assertEqual(pack.rows(), [(n, None, texts[n]) for n in range(5)])
        self.check_whole(pack, texts)


class BesideTest(PackCase):
    def check_stored(self, old, new, change):
        with self.subTest(old=old, new=new):
            pack = Pack(1)
            pack.store(old, None)
            self.assertEqual(pack.store(new, 0), 1)
            self.assertEqual(pack.rows(), [(0, None, old), (1, 0, change)])
            self.check_whole(pack, {0: old, 1: new})

    def test_the_change_of_point_four(self):
        self.check_stored("abcdef", "abxyef", (2, "cd", "xy"))
        self.check_stored("abc", "abc", (3, "", ""))
        self.check_stored("", "", (0, "", ""))
        self.check_stored("", "abc", (0, "", "abc"))
        self.check_stored("abc", "", (0, "abc", ""))
        self.check_stored("aaa", "aa", (2, "a", ""))
        self.check_stored("abab", "ab", (2, "ab", ""))
        self.check_stored("a\nb\n", "a\n\tb\n", (2, "", "\t"))

    def test_from_the_text_of_a_leaning_base(self):
        pack = Pack(9)
        pack.store("abc", None)
        pack.store("xbc", 0)
        pack.store("xbcd", 1)
        pack.store("xyd", 2)
        self.assertEqual(pack.rows(), [(0, None, "abc"), (1, 0, (0, "a", "x")),
                                       (2, 1, (3, "", "d")), (3, 2, (1, "bc", "y"))])
        self.check_whole(pack, {0: "abc", 1: "xbc", 2: "xbcd", 3: "xyd"})

    def test_long_texts(self):
        pack, texts = Pack(60), {}
        dice = Dice(1)
        text = dice.text(2200)
        for number in range(61):
            texts[number] = text
            self.assertEqual(pack.store(text, number - 1 if number else None), number)
            at = dice.below(2100)
            text = (text[:at] + dice.text(dice.below(9)) + text[at + dice.below(9):])[:2200]
        self.check_whole(pack, texts)
        self.assertEqual(len(pack.chain(60)), 61)


class WithinTheBoundTest(PackCase):
    def test_a_chain_as_long_as_the_bound_takes(self):
        for bound in (1, 2, 3, 4, 7, 30, 60):
            pack, reckoned = paths(bound, bound + 1)
            self.assertEqual(pack.rows(), reckoned.rows())
            self.assertEqual(pack.bases(), {n: n - 1 if n else None for n in range(bound + 1)})
            self.check_whole(pack, reckoned.texts)

    def test_the_greatest_bound(self):
        pack, reckoned = paths(1000, 62)
        self.assertEqual(pack.chain(61), list(range(61, -1, -1)))
        self.check_whole(pack, reckoned.texts)

    def test_only_the_new_chain_counts(self):
        # The tree has versions that are farther from one another than the bound, but no
        # chain has more changes.
        pack = pack_of({0: None, 1: 0, 2: 1, 3: 0, 4: 3, 5: 0}, 2)
        before = pack.rows()
        self.assertEqual(pack.store("new", 5), 6)
        self.assertEqual(pack.rows()[:6], before)
        self.assertEqual(pack.bases()[6], 5)


class BeyondTheBoundTest(PackCase):
    def test_bound_one(self):
        pack = Pack(1)
        pack.store("a", None)
        pack.store("ab", 0)
        self.assertEqual(pack.store("abc", 1), 2)
        self.assertEqual(pack.rows(), [(0, 1, (1, "b", "")), (1, None, "ab"), (2, 1, (2, "", "c"))])
        self.check_whole(pack, {0: "a", 1: "ab", 2: "abc"})

    def test_bound_two(self):
        pack, reckoned = paths(2, 4)
        # The path 0, 1, 2, 3 has two middles, of which 2 is the greater one.
        self.assertEqual(pack.bases(), {0: 1, 1: 2, 2: None, 3: 2})
        self.assertEqual(pack.rows(), reckoned.rows())
        self.check_whole(pack, reckoned.texts)

    def test_a_path_of_the_bound_and_one_more_and_more(self):
        for bound in list(range(1, 9)) + [15, 29, 30, 59, 60]:
            for more in (2, 3, 4):
                if bound + more > 62:
                    continue
                with self.subTest(bound=bound, more=more):
                    pack, reckoned = paths(bound, bound + more)
                    self.assertEqual(pack.rows(), reckoned.rows())
                    self.check_whole(pack, reckoned.texts)

    def test_rooted_at_the_middle(self):
        for bound in (1, 2, 3, 10, 60):
            pack, _ = paths(bound, bound + 2)
            whole = [n for n, base in pack.bases().items() if base is None]
            self.assertEqual(whole, [(bound + 2) // 2])

    def test_sixty_two_versions_in_a_row(self):
        for bound in (0, 1, 2, 3, 5, 10, 20, 30, 31, 59, 60, 61):
            with self.subTest(bound=bound):
                pack, reckoned = paths(bound, 62)
                self.assertEqual(pack.rows(), reckoned.rows())
                self.check_whole(pack, reckoned.texts)

    def test_only_the_chain_of_the_middle_is_turned(self):
        # With 6 beside 3 the longest way is 6, 3, 2, 1, 0, and 2 lies in its middle.
        bases = {0: None, 1: 0, 2: 1, 3: 2, 4: 2, 5: 1, 7: None, 8: 7, 9: 8, 10: 9}
        pack = pack_of(bases, 3)
        before, texts = pack.rows(), texts_of(pack)
        self.assertEqual(pack.store("new", 3), 11)
        self.assertEqual(pack.bases(), {0: 1, 1: 2, 2: None, 3: 2, 4: 2, 5: 1, 7: None, 8: 7,
                                        9: 8, 10: 9, 11: 3})
        behind = pack.rows()
        self.assertEqual(behind[3:10], before[3:10])
        self.assertEqual(behind[0], (0, 1, turned_row(before[1])))
        self.assertEqual(behind[1], (1, 2, turned_row(before[2])))
        self.assertEqual(behind[2], (2, None, texts[2]))
        self.assertEqual(behind[10], (11, 3, plain_change(texts[3], "new")))
        self.check_whole(pack, {**texts, 11: "new"})

    def test_the_middle_with_a_reach_of_just_the_bound(self):
        pack = pack_of({0: None, 1: 0, 2: 1, 3: 0}, 2)
        texts = texts_of(pack)
        self.assertEqual(pack.store("new", 2), 4)
        self.assertEqual(pack.bases(), {0: 1, 1: None, 2: 1, 3: 0, 4: 2})
        self.check_whole(pack, {**texts, 4: "new"})

    def test_the_middle_may_be_the_one_that_it_is_stored_beside(self):
        pack = pack_of({3: None, 5: 3}, 1)
        self.assertEqual(pack.store("new", 5), 6)
        self.assertEqual(pack.bases(), {3: 5, 5: None, 6: 5})

    def test_of_two_middles_the_greater_number(self):
        # The way is 4, 0, 5, 9; of 0 and 5 in its middle 5 is the greater one.
        pack = pack_of({9: None, 5: 9, 0: 5}, 2)
        self.assertEqual(pack.store("new", 0), 10)
        self.assertEqual(pack.bases(), {0: 5, 5: None, 9: 5, 10: 0})
        pack = pack_of({9: None, 0: 9, 5: 0}, 2)
        self.assertEqual(pack.store("new", 5), 10)
        self.assertEqual(pack.bases(), {0: 5, 5: None, 9: 0, 10: 5})

    def test_changes_on_the_chain_are_turned_and_not_made_anew(self):
        texts = {0: "abcabc", 1: "abcxabc", 2: "abcxyabc"}
        rows = rows_of({0: None, 1: 0, 2: 1}, texts)
        rows = [rows[0], (1, 0, longer(texts[0], rows[1][2], 2, 1)),
                (2, 1, longer(texts[1], rows[2][2], 1, 3))]
        pack = opened(rows, 2)
        self.assertEqual(pack.store("abcxyzabc", 2), 3)
        at, gone, come = rows[1][2]
        at_two, gone_two, come_two = rows[2][2]
        self.assertEqual(pack.rows(), [
            (0, 1, (at, come, gone)), (1, 2, (at_two, come_two, gone_two)), (2, None, "abcxyabc"),
            (3, 2, plain_change("abcxyabc", "abcxyzabc"))])


class TooFarApartTest(PackCase):
    """The middle's reach is more than the bound: the new version is kept whole."""

    def check_kept_whole(self, bases, bound, beside):
        pack = pack_of(bases, bound)
        before, texts = pack.rows(), texts_of(pack)
        number = max(bases) + 1
        with self.subTest(bases=bases, bound=bound, beside=beside):
            self.assertEqual(pack.store("new", beside), number)
            self.assertEqual(pack.rows(), before + [(number, None, "new")])
            self.check_whole(pack, {**texts, number: "new"})

    def test_bound_nought(self):
        self.check_kept_whole({0: None, 3: None}, 0, 0)

    def test_a_star(self):
        self.check_kept_whole({0: None, 1: 0, 2: 0}, 1, 1)
        self.check_kept_whole({0: None, 1: 0, 2: 0}, 1, 2)
        self.check_kept_whole({0: 5, 1: 5, 2: 5, 5: None}, 1, 0)

    def test_two_branches_as_long_as_the_bound(self):
        bases = {0: None, 1: 0, 2: 1, 3: 0, 4: 3}
        self.check_kept_whole(bases, 2, 2)
        self.check_kept_whole(bases, 2, 4)
        bases = {0: None, 1: 0, 2: 1, 3: 2, 4: 0, 5: 4, 6: 5, 8: None, 9: 8}
        self.check_kept_whole(bases, 3, 3)
        self.check_kept_whole(bases, 3, 6)

    def test_two_branches_of_thirty(self):
        bases = {0: None}
        for number in range(1, 61):
            bases[number] = number - 2 if number > 2 else 0
        self.check_kept_whole(bases, 30, 59)
        self.check_kept_whole(bases, 30, 60)

    def test_one_change_less_is_near_enough(self):
        bases = {0: None}
        for number in range(1, 60):
            bases[number] = number - 2 if number > 2 else 0
        pack = pack_of(bases, 30)
        self.assertEqual(pack.store("new", 59), 60)
        self.assertEqual(pack.base(60), 59)
        self.assertEqual([n for n, base in pack.bases().items() if base is None], [1])


class MixedTest(PackCase):
    def test_against_the_reckoning(self):
        for bound in range(6):
            for seed in range(12):
                with self.subTest(bound=bound, seed=seed):
                    self.check_run(bound, Dice(100 * bound + seed))

    def check_run(self, bound, dice):
        pack, reckoned = Pack(bound), Reckoned(bound)
        for number in range(16):
            # Most are stored beside one of the last few, so that the chains grow long.
            beside = max(0, number - 1 - dice.below(4)) if number and dice.below(9) else None
            text = dice.text(6, "ab") if beside is None else dice.edited(pack.read(beside))
            self.assertEqual(pack.store(text, beside), reckoned.store(text, beside))
            self.assertEqual(pack.rows(), reckoned.rows())
        self.check_whole(pack, reckoned.texts)


class RefusedTest(PackCase):
    def test_beside_what_is_not_kept(self):
        pack = pack_of({0: None, 1: 0, 4: 1}, 2)
        for beside in (2, 3, 5, -1, True, False, "0", [0]):
            self.check_refused_deed(pack, NoVersion, "store", "abc", beside)
        self.assertEqual(pack.store("abc", 0), 5)


if __name__ == "__main__":
    unittest.main()

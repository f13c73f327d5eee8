"""Points 2, 3 and 4 of the document, and point 1 as far as it speaks of texts."""

import copy
import itertools
import unittest

from packdelta.changes import change_of, done, turned
from packdelta.errors import BadBound, BadRows, InRing, NoFit, NoVersion, PackError, TooFar

# Every sign that a text may have: the blank to ~, but the percent sign, and line ends and tabs.
ALL_SIGNS = "".join(chr(code) for code in range(32, 127) if code != 37) + "\n\t"

LINES = "one\n\ttwo\n\n\tthree\t\n"


def long_text(many=2000):
    """A text of as many signs, of all kinds."""
    return "".join(ALL_SIGNS[(k * k + k // 7) % len(ALL_SIGNS)] for k in range(many))


def texts_over(signs, longest):
    """All texts of these signs up to a length."""
    for many in range(longest + 1):
        for picked in itertools.product(signs, repeat=many):
            yield "".join(picked)


class DoneTest(unittest.TestCase):
    """Point 2: changes that fit."""

    def check(self, text, change, behind):
        with self.subTest(text=text, change=change):
            self.assertEqual(done(text, change), behind)

    def test_at_the_beginning(self):
        self.check("abcdef", (0, "ab", "xyz"), "xyzcdef")
        self.check("abcdef", (0, "abc", "x"), "xdef")

    def test_in_the_middle(self):
        self.check("abcdef", (2, "cd", "xyz"), "abxyzef")
        self.check("abcdef", (3, "d", "d"), "abcdef")

    def test_at_the_end(self):
        self.check("abcdef", (4, "ef", "xyz"), "abcdxyz")
        self.check("abcdef", (5, "f", ""), "abcde")

    def test_the_whole_text(self):
        self.check("abcdef", (0, "abcdef", "xyz"), "xyz")
        self.check("abcdef", (0, "abcdef", ""), "")

    def test_only_the_gone_at_the_place_is_exchanged(self):
        self.check("abab", (0, "ab", "x"), "xab")
        self.check("abab", (2, "ab", "x"), "abx")
        self.check("aaaa", (1, "a", "b"), "abaa")

    def test_the_empty_text(self):
        self.check("", (0, "", ""), "")
        self.check("", (0, "", "abc"), "abc")

    def test_an_empty_gone_stands_at_every_place(self):
        self.check("abc", (0, "", "x"), "xabc")
        self.check("abc", (1, "", "x"), "axbc")
        self.check("abc", (2, "", "x"), "abxc")
        self.check("abc", (3, "", "x"), "abcx")

    def test_an_empty_come(self):
        self.check("abc", (0, "a", ""), "bc")
        self.check("abc", (1, "b", ""), "ac")
        self.check("abc", (2, "c", ""), "ab")

    def test_both_empty(self):
        for at in range(4):
            self.check("abc", (at, "", ""), "abc")

    def test_line_ends_and_tabs(self):
        self.check(LINES, (3, "\n\ttwo\n", "\n"), "one\n\n\tthree\t\n")
        self.check(LINES, (len(LINES) - 2, "\t\n", "\t\t"), "one\n\ttwo\n\n\tthree\t\t")
        self.check(LINES, (9, "", "\t"), "one\n\ttwo\n\t\n\tthree\t\n")
        self.check("\n\n", (1, "\n", "\t\n"), "\n\t\n")

    def test_every_sign_of_a_text(self):
        for at, sign in enumerate(ALL_SIGNS):
            self.check(ALL_SIGNS, (at, sign, "<>"), ALL_SIGNS[:at] + "<>" + ALL_SIGNS[at + 1:])

    def test_a_long_text(self):
        text = long_text()
        for at in (0, 1, 997, 1900):
            gone = text[at:at + 100]
            behind = "".join((text[:at], LINES, text[at + 100:]))
            self.check(text, (at, gone, LINES), behind)
        self.check(text, (0, text, LINES), LINES)
        self.check(text, (len(text), "", LINES), text + LINES)
        self.check(LINES, (0, LINES, text), text)

    def test_somewhat_beyond_the_longest_text(self):
        text = long_text(2600)
        self.check(text, (2599, text[2599], "ab"), text[:2599] + "ab")


class RefusedTest(unittest.TestCase):
    """Point 2: changes that do not fit."""

    def check(self, text, change):
        with self.subTest(text=text, change=change):
            with self.assertRaises(NoFit):
                done(text, change)

    def test_a_place_below_nought(self):
        for at in (-1, -2, -3, -4, -(10 ** 12), -(10 ** 30)):
            self.check("abc", (at, "a", "x"))
            self.check("abc", (at, "", "x"))
            self.check("abc", (at, "", ""))
            self.check("", (at, "", "x"))

    def test_a_place_counted_from_the_end(self):
        self.check("abc", (-1, "c", "x"))
        self.check("abc", (-2, "b", "x"))
        self.check("abc", (-3, "a", "x"))
        self.check("abc", (-3, "ab", "x"))
        self.check("abc", (-3, "abc", "x"))

    def test_an_empty_gone_beyond_the_text(self):
        self.check("abc", (4, "", "x"))
        self.check("abc", (4, "", ""))
        self.check("", (1, "", ""))
        self.check("", (1, "", "x"))

    def test_a_place_beyond_the_text(self):
        for at in (3, 4, 5, 10 ** 12, 10 ** 30):
            self.check("abc", (at, "a", "x"))
            self.check("abc", (at, "c", ""))
        for at in (4, 5, 10 ** 12, 10 ** 30, 10 ** 5000):
            self.check("abc", (at, "", "x"))

    def test_gone_that_stands_elsewhere(self):
        self.check("abcdef", (0, "cd", "x"))
        self.check("abcdef", (1, "cd", "x"))
        self.check("abcdef", (3, "cd", "x"))
        self.check("abcdef", (5, "a", "x"))
        self.check("abcabc", (1, "abc", "x"))

    def test_gone_that_stands_nowhere(self):
        self.check("abcdef", (0, "x", "y"))
        self.check("", (0, "a", "b"))
        self.check("", (0, "a", ""))

    def test_gone_with_one_sign_exchanged(self):
        self.check("abcdef", (1, "xcde", "y"))
        self.check("abcdef", (1, "bcxe", "y"))
        self.check("abcdef", (1, "bcdx", "y"))
        self.check("abcdef", (1, "bcDe", "y"))
        self.check(LINES, (3, "\n two", ""))
        self.check(LINES, (3, "\t\ttwo", ""))

    def test_gone_beyond_the_end_by_one_sign(self):
        self.check("abc", (0, "abcd", "x"))
        self.check("abc", (1, "bca", "x"))
        self.check("abc", (2, "cc", "x"))
        self.check("abc", (3, "a", "x"))
        self.check("a\n", (0, "a\n\n", ""))
        self.check("abc", (0, "abc ", "abc"))

    def test_a_long_text(self):
        text = long_text()
        self.check(text, (0, text + "a", ""))
        self.check(text, (0, text[:1999] + "~~", ""))
        self.check(text, (1, text, ""))
        self.check(text, (2001, "", ""))
        wrong = "b" if text[1000] == "a" else "a"
        self.check(text, (0, text[:1000] + wrong + text[1001:], ""))

    def test_it_is_caught_under_its_own_name_and_those_above(self):
        for caught in (NoFit, PackError, ValueError):
            with self.subTest(caught=caught.__name__):
                with self.assertRaises(caught):
                    done("abc", (0, "b", ""))

    def test_it_is_none_of_the_other_refusals(self):
        try:
            done("abc", (0, "b", ""))
            self.fail("a change that does not fit was done")
        except PackError as refusal:
            self.assertNotIsInstance(refusal, (BadBound, BadRows, InRing, NoVersion, TooFar))

    def test_a_refusal_leaves_the_next_call_as_it_was(self):
        change = (1, "b", "xyz")
        self.assertEqual(done("abc", change), "axyzc")
        self.check("acb", change)
        self.assertEqual(done("abc", change), "axyzc")


class AllSmallChangesTest(unittest.TestCase):
    """Point 2, sign by sign, on all small texts and changes."""

    def fits(self, text, at, gone):
        if at < 0 or at + len(gone) > len(text):
            return False
        return all(text[at + k] == gone[k] for k in range(len(gone)))

    def test_done_or_refused(self):
        for text in texts_over("ab", 4):
            for gone in texts_over("ab", 3):
                for at in range(-len(text) - 2, len(text) + 3):
                    self.check(text, (at, gone, "xy"))

    def check(self, text, change):
        at, gone, come = change
        if not self.fits(text, at, gone):
            with self.assertRaises(NoFit, msg=(text, change)):
                done(text, change)
            return
        signs = list(text)
        signs[at:at + len(gone)] = list(come)
        self.assertEqual(done(text, change), "".join(signs), (text, change))


class TurnedTest(unittest.TestCase):
    """Point 3."""

    CHANGES = (
        ("abcdef", (0, "ab", "xyz")),
        ("abcdef", (2, "cd", "")),
        ("abcdef", (6, "", "gh")),
        ("abcdef", (3, "", "")),
        ("abcdef", (0, "abcdef", "")),
        ("", (0, "", "ab\n")),
        ("", (0, "", "")),
        (LINES, (3, "\n\ttwo", "\t")),
        (long_text(), (700, long_text()[700:1400], LINES)),
    )

    def test_the_two_texts_change_places(self):
        self.assertEqual(turned((4, "gone", "come")), (4, "come", "gone"))
        self.assertEqual(turned((0, "", "come")), (0, "come", ""))
        self.assertEqual(turned((7, "gone", "")), (7, "", "gone"))
        self.assertEqual(turned((0, "", "")), (0, "", ""))

    def test_it_is_a_tuple(self):
        for _, change in self.CHANGES:
            with self.subTest(change=change):
                self.assertIs(type(turned(change)), tuple)

    def test_done_behind_the_change_it_gives_the_text_ahead(self):
        for text, change in self.CHANGES:
            with self.subTest(text=text, change=change):
                self.assertEqual(done(done(text, change), turned(change)), text)

    def test_turned_back_twice_it_is_the_change(self):
        for _, change in self.CHANGES:
            with self.subTest(change=change):
                self.assertEqual(turned(turned(change)), change)

    def test_turned_back_it_is_refused_on_other_texts(self):
        with self.assertRaises(NoFit):
            done("abc", turned((1, "b", "x")))


class ChangeOfTest(unittest.TestCase):
    """Point 4."""

    def check(self, old, new, change):
        with self.subTest(old=old, new=new):
            found = change_of(old, new)
            self.assertEqual(found, change)
            self.assertIs(type(found), tuple)
            self.assertEqual(done(old, found), new)

    def test_equal_texts(self):
        self.check("", "", (0, "", ""))
        self.check("a", "a", (1, "", ""))
        self.check("abc", "abc", (3, "", ""))
        self.check("aaaa", "aaaa", (4, "", ""))
        self.check(LINES, LINES, (len(LINES), "", ""))
        self.check(long_text(), long_text(), (2000, "", ""))

    def test_a_beginning_alike(self):
        self.check("abcd", "abxyz", (2, "cd", "xyz"))
        self.check("abcd", "ab", (2, "cd", ""))
        self.check("ab", "abcd", (2, "", "cd"))

    def test_an_end_alike(self):
        self.check("abcd", "xyzcd", (0, "ab", "xyz"))
        self.check("abcd", "cd", (0, "ab", ""))
        self.check("cd", "abcd", (0, "", "ab"))

    def test_beginning_and_end_alike(self):
        self.check("abcdef", "abxyef", (2, "cd", "xy"))
        self.check("abcdef", "abef", (2, "cd", ""))
        self.check("abef", "abcdef", (2, "", "cd"))
        self.check("abcdefg", "axcdeyg", (1, "bcdef", "xcdey"))

    def test_beginning_and_end_over_one_another(self):
        self.check("aaa", "aa", (2, "a", ""))
        self.check("aa", "aaa", (2, "", "a"))
        self.check("aa", "aaaa", (2, "", "aa"))
        self.check("aaaa", "aa", (2, "aa", ""))
        self.check("abab", "ab", (2, "ab", ""))
        self.check("ab", "abab", (2, "", "ab"))
        self.check("aba", "a", (1, "ba", ""))
        self.check("a", "aba", (1, "", "ba"))
        self.check("aabaa", "aaa", (2, "ba", ""))
        self.check("aaa", "aabaa", (2, "", "ba"))
        self.check("abcab", "abab", (2, "c", ""))

    def test_the_longest_end_of_what_is_left(self):
        self.check("axbb", "aybbb", (1, "x", "yb"))
        self.check("xaa", "yaaa", (0, "x", "ya"))
        self.check("acbab", "adab", (1, "cb", "d"))

    def test_one_text_empty(self):
        self.check("", "abc", (0, "", "abc"))
        self.check("abc", "", (0, "abc", ""))

    def test_nothing_alike(self):
        self.check("abc", "xy", (0, "abc", "xy"))
        self.check("ab", "ba", (0, "ab", "ba"))
        self.check("a", "A", (0, "a", "A"))

    def test_line_ends_and_tabs(self):
        self.check("a\nb\nc\n", "a\n\tb\nc\n", (2, "", "\t"))
        self.check("a\nb\n", "a\nb", (3, "\n", ""))
        self.check("\n\n\n", "\n\n", (2, "\n", ""))
        self.check("a b", "a\tb", (1, " ", "\t"))

    def test_long_texts(self):
        text = long_text()
        self.check(text, text[:900] + text[1000:], (900, text[900:1000], ""))
        self.check(text[:900] + text[1000:], text, (900, "", text[900:1000]))
        wrong = "b" if text[1234] == "a" else "a"
        self.check(text, text[:1234] + wrong + text[1235:], (1234, text[1234], wrong))
        self.check(text, "", (0, text, ""))
        self.check("a" * 2000, "a" * 1999, (1999, "a", ""))
        self.check("a" * 1999 + "b", "a" * 1000 + "b", (1000, "a" * 999, ""))
        self.check("a" * 2000, "b" * 2200, (0, "a" * 2000, "b" * 2200))

    def test_all_small_texts(self):
        texts = list(texts_over("ab", 5))
        for old, new in itertools.product(texts, repeat=2):
            self.assertEqual(change_of(old, new), self.plainly(old, new), (old, new))
            self.assertEqual(done(old, change_of(old, new)), new)

    def plainly(self, old, new):
        shorter = min(len(old), len(new))
        at = max(k for k in range(shorter + 1) if old[:k] == new[:k])
        rest, rest_new = old[at:], new[at:]
        shorter = min(len(rest), len(rest_new))
        left = max(k for k in range(shorter + 1) if k == 0 or rest[-k:] == rest_new[-k:])
        return (at, rest[:len(rest) - left], rest_new[:len(rest_new) - left])


class HandedInTest(unittest.TestCase):
    """Point 1: what is handed in is the same behind the call."""

    def unchanged(self, function, *handed):
        kept = copy.deepcopy(handed)
        try:
            function(*handed)
        except NoFit:
            pass
        self.assertEqual(handed, kept)
        self.assertEqual([type(one) for one in handed], [type(one) for one in kept])

    def test_behind_each_call(self):
        self.unchanged(done, "abc", (1, "b", "xyz"))
        self.unchanged(done, LINES, (3, "\n", "\t"))
        self.unchanged(turned, (1, "b", "xyz"))
        self.unchanged(change_of, "abc", "axyzc")

    def test_behind_a_refusal(self):
        self.unchanged(done, "abc", (2, "b", "xyz"))
        self.unchanged(done, "abc", (-1, "c", ""))

    def test_the_same_question_has_the_same_answer(self):
        for _ in range(3):
            self.assertEqual(done("abc", (1, "b", "x")), "axc")
            self.assertEqual(turned((1, "b", "x")), (1, "x", "b"))
            self.assertEqual(change_of("abc", "axc"), (1, "b", "x"))
            self.assertEqual(change_of("axc", "abc"), (1, "x", "b"))


if __name__ == "__main__":
    unittest.main()

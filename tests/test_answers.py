"""Point 1: what is handed in, what is answered, and what is refused, over the whole program."""

import copy
import unittest

from packcase import PackCase, pack_of, state, texts_of
from packdelta.errors import InRing, NoVersion, TooFar
from packdelta.opening import opened
from packdelta.packs import Pack
from reckoning import SIGNS, Dice, rows_of, texts_for

BASES = {0: None, 1: 0, 2: 1, 3: 0, 5: None, 6: 5, 7: 6}


def deeds():
    """Deeds that change a pack with these bases and the bound 4, by name and arguments."""
    return (("store", "new", None), ("store", "new", 2), ("store", "new", 7), ("root", 2),
            ("root", 7), ("root", 3), ("lean", 0, 5), ("lean", 7, 0), ("lean", 2, 3),
            ("forget", 0), ("forget", 1), ("forget", 5), ("forget", 7))


class TextsTest(PackCase):
    """Each version is read as it was stored."""

    def test_texts_of_all_lengths(self):
        pack, texts = Pack(3), {}
        dice = Dice(4)
        for number, many in enumerate((0, 1, 2, 3, 80, 500, 1999, 2000, 2199, 2200, 0, 2200)):
            texts[number] = dice.text(many)
            pack.store(texts[number], number - 1 if number else None)
            self.check_whole(pack, texts)

    def test_every_sign(self):
        pack, texts = Pack(2), {}
        for number, sign in enumerate(SIGNS[:60]):
            texts[number] = SIGNS.replace(sign, "")
            pack.store(texts[number], number - 1 if number else None)
        self.check_whole(pack, texts)
        pack, texts = Pack(2), {}
        for number, sign in enumerate(SIGNS[60:]):
            texts[number] = sign * number
            pack.store(texts[number], number - 1 if number else None)
        self.check_whole(pack, texts)

    def test_line_ends_and_tabs(self):
        pack, texts = Pack(9), {}
        lines = ("", "\n", "\t", "\n\n", "\t\n", "a\n\tb", "a\n\tb\n", " a \n\t b \n", "\n\n\t", "")
        for number, text in enumerate(lines):
            texts[number] = text
            pack.store(text, number - 1 if number else None)
        self.check_whole(pack, texts)

    def test_behind_each_deed(self):
        for deed, *handed in deeds():
            pack = pack_of(BASES, 4)
            texts = texts_of(pack)
            found = getattr(pack, deed)(*handed)
            if deed == "store":
                texts[found] = handed[0]
            if deed == "forget":
                del texts[handed[0]]
            with self.subTest(deed=deed, handed=handed):
                self.check_whole(pack, texts)

    def test_beyond_sixty_two_versions(self):
        for bound in (0, 3, 40, 1000):
            pack, texts = Pack(bound), {}
            for number in range(70):
                texts[number] = str(number * number) * 3
                pack.store(texts[number], number - 1 if number else None)
            self.check_whole(pack, texts)


class HandedInTest(PackCase):
    def test_the_rows_are_the_same_behind_the_call(self):
        rows = rows_of(BASES, texts_for(BASES))
        handed = copy.deepcopy(rows)
        pack = opened(handed, 4)
        self.assertEqual(handed, rows)
        for deed, *more in deeds()[:5]:
            getattr(pack, deed)(*more)
        self.assertEqual(handed, rows)

    def test_the_rows_are_not_kept(self):
        rows = rows_of(BASES, texts_for(BASES))
        handed = copy.deepcopy(rows)
        pack = opened(handed, 4)
        before = state(pack)
        handed[0] = (0, None, "other")
        handed[1] = (1, None, "other")
        handed.append((9, None, "more"))
        self.assertEqual(state(pack), before)
        handed.clear()
        self.assertEqual(state(pack), before)
        self.assertEqual(pack.rows(), rows)


class AnswersTest(PackCase):
    """What is answered is the asker's own."""

    ASKED = (("rows",), ("numbers",), ("bases",), ("chain", 2), ("chain", 7), ("chain", 0))

    def test_the_kinds(self):
        pack = pack_of(BASES, 4)
        for asked, *handed in self.ASKED:
            kind = dict if asked == "bases" else list
            self.assertIs(type(getattr(pack, asked)(*handed)), kind)
        for asked, kind in (("rows", list), ("numbers", list), ("bases", dict)):
            self.assertIs(type(getattr(Pack(0), asked)()), kind)

    def test_new_at_each_asking(self):
        pack = pack_of(BASES, 4)
        for asked, *handed in self.ASKED:
            one, other = (getattr(pack, asked)(*handed) for _ in range(2))
            self.assertEqual(one, other)
            self.assertIsNot(one, other)

    def test_the_asker_may_change_them(self):
        for asked, *handed in self.ASKED:
            pack = pack_of(BASES, 4)
            before, texts = state(pack), texts_of(pack)
            answer = getattr(pack, asked)(*handed)
            whole = copy.deepcopy(answer)
            if asked == "bases":
                answer[0], answer[77] = 7, 0
                del answer[1]
            else:
                answer[0] = answer[-1]
                answer.append(77)
                answer.reverse()
            with self.subTest(asked=asked, handed=handed):
                self.assertEqual(state(pack), before)
                self.assertEqual(getattr(pack, asked)(*handed), whole)
                self.check_whole(pack, texts)
                answer.clear()
                self.assertEqual(state(pack), before)

    def test_later_deeds_change_nothing_in_them(self):
        for deed, *more in deeds():
            pack = pack_of(BASES, 4)
            answers = [getattr(pack, asked)(*handed) for asked, *handed in self.ASKED]
            kept = copy.deepcopy(answers)
            order = list(answers[2])
            getattr(pack, deed)(*more)
            with self.subTest(deed=deed, more=more):
                self.assertEqual(answers, kept)
                self.assertEqual(list(answers[2]), order)

    def test_asking_changes_nothing(self):
        pack = pack_of(BASES, 4)
        before = state(pack)
        for asked, *handed in self.ASKED + (("read", 2), ("base", 2), ("weight",)):
            getattr(pack, asked)(*handed)
            self.assertEqual(state(pack), before)

    def test_what_was_answered_is_not_answered_again(self):
        for deed, *more in deeds():
            pack, other = pack_of(BASES, 4), pack_of(BASES, 4)
            for asked, *handed in self.ASKED + (("read", 3), ("base", 3), ("weight",)):
                getattr(pack, asked)(*handed)
            getattr(pack, deed)(*more)
            getattr(other, deed)(*more)
            with self.subTest(deed=deed, more=more):
                self.assertEqual(state(pack), state(other))
                self.assertEqual(texts_of(pack), texts_of(other))


class RefusedTest(PackCase):
    """What is refused changes nothing."""

    def test_each_deed_and_each_refusal(self):
        pack = pack_of(BASES, 2)
        for refusal, deed, *handed in (
                (NoVersion, "store", "new", 4), (NoVersion, "read", 4), (NoVersion, "base", 8),
                (NoVersion, "chain", -1), (NoVersion, "root", 4), (NoVersion, "forget", 4),
                (NoVersion, "lean", 4, 0), (NoVersion, "lean", 0, 4), (TooFar, "root", 2),
                (InRing, "lean", 0, 2), (InRing, "lean", 6, 6), (TooFar, "lean", 0, 5),
                (TooFar, "lean", 5, 3), (TooFar, "lean", 3, 7)):
            self.check_refused_deed(pack, refusal, deed, *handed)
        self.assertEqual(pack.rows(), pack_of(BASES, 2).rows())
        self.assertEqual(pack.store("new", 3), 8)

    def test_the_program_goes_on_behind_refusals_as_without(self):
        pack, other = pack_of(BASES, 4), pack_of(BASES, 4)
        for deed, *handed in (("store", "a", 2), ("root", 2), ("lean", 5, 1), ("forget", 0)):
            self.check_refused_deed(pack, NoVersion, "root", 4)
            self.check_refused_deed(pack, NoVersion, "store", "b", 99)
            self.check_refused_deed(pack, InRing, "lean", 3, 3)
            self.assertEqual(getattr(pack, deed)(*handed), getattr(other, deed)(*handed))
            self.assertEqual(state(pack), state(other))


if __name__ == "__main__":
    unittest.main()

"""Many mixed deeds, each held against the second reckoning."""

import unittest

from packcase import REFUSALS, PackCase
from packdelta.opening import opened
from packdelta.packs import Pack
from reckoning import Dice, Reckoned, Refused, longer, plain_done

NAMES = {refusal: refusal.__name__ for refusal in REFUSALS}


def done_on_pack(pack, deed, handed):
    """What the pack gives, or the name of its refusal."""
    try:
        return ("done", getattr(pack, deed)(*handed))
    except REFUSALS as refusal:
        return ("refused", NAMES[type(refusal)])


def done_on_reckoned(reckoned, deed, handed):
    """What the reckoning gives, or the name of its refusal."""
    try:
        return ("done", getattr(reckoned, deed)(*handed))
    except Refused as refusal:
        return ("refused", str(refusal))


class RunsTest(PackCase):
    STRANGE = (-1, 10 ** 30, True, False, None, "0", [0])

    def number(self, dice, reckoned):
        """Most times the number of a kept version."""
        if not reckoned.bases or dice.below(12) == 0:
            return dice.pick(self.STRANGE + (reckoned.coming, dice.below(reckoned.coming + 1)))
        return dice.pick(sorted(reckoned.bases))

    def deed(self, dice, reckoned, most):
        """The name of a deed, and what is handed in."""
        kind = dice.below(10)
        if kind < 4 and len(reckoned.bases) < most:
            beside = None if dice.below(6) == 0 else self.number(dice, reckoned)
            near = reckoned.texts.get(beside, "abab") if isinstance(beside, int) else "abba"
            return "store", (dice.edited(near), beside)
        if kind < 6:
            return "root", (self.number(dice, reckoned),)
        if kind < 8:
            return "lean", (self.number(dice, reckoned), self.number(dice, reckoned))
        if kind < 9 or len(reckoned.bases) >= most:
            return "forget", (self.number(dice, reckoned),)
        return "store", (dice.text(dice.below(6), "ab"), None)

    def check_asked(self, dice, pack, reckoned):
        """All questions, in any order, each answered as the reckoning's rows tell it."""
        rows = reckoned.rows()
        asked = [("rows", (), rows), ("numbers", (), [row[0] for row in rows]),
                 ("bases", (), {row[0]: row[1] for row in rows}),
                 ("weight", (), reckoned.weight())]
        for number, base, _ in rows:
            chain = [number]
            while reckoned.bases[chain[-1]] is not None:
                chain.append(reckoned.bases[chain[-1]])
            self.assertLessEqual(len(chain) - 1, pack.bound)
            asked += [("read", (number,), reckoned.texts[number]), ("base", (number,), base),
                      ("chain", (number,), chain)]
        for question, handed, answer in dice.mixed(asked):
            found = getattr(pack, question)(*handed)
            self.assertEqual(found, answer)
            if question == "bases":
                self.assertEqual(list(found.items()), list(answer.items()))
        for _, base, kept in rows:
            if base is not None:
                plain_done(reckoned.texts[base], kept)
        self.assertEqual(pack.bound, reckoned.bound)

    def reopened(self, dice, pack, reckoned):
        """Both opened from the rows, at times with longer changes and another bound."""
        bound = dice.below(6) if dice.below(3) == 0 else reckoned.bound
        rows = pack.rows()
        if dice.below(2):
            rows = [(n, base, kept if base is None else
                     longer(reckoned.texts[base], kept, dice.below(3), dice.below(3)))
                    for n, base, kept in rows]
        try:
            behind = reckoned.opened(rows, bound)
        except Refused as refusal:
            with self.assertRaises(REFUSALS) as told:
                opened(rows, bound)
            self.assertEqual(NAMES[type(told.exception)], str(refusal))
            return pack, reckoned
        return opened(rows, bound), behind

    def check_run(self, bound, seed, many, most):
        dice = Dice(seed)
        pack, reckoned = Pack(bound), Reckoned(bound)
        for _ in range(many):
            if dice.below(12) == 0:
                pack, reckoned = self.reopened(dice, pack, reckoned)
            else:
                deed, handed = self.deed(dice, reckoned, most)
                expected = done_on_reckoned(reckoned, deed, handed)
                self.assertEqual(done_on_pack(pack, deed, handed), expected, (deed, handed))
            self.check_asked(dice, pack, reckoned)

    def test_small_packs(self):
        for bound in range(6):
            for seed in range(60):
                with self.subTest(bound=bound, seed=seed):
                    self.check_run(bound, 1000 * bound + seed, 60, 9)

    def test_greater_packs(self):
        for bound in range(6):
            for seed in range(5):
                with self.subTest(bound=bound, seed=seed):
                    self.check_run(bound, 2000 + 100 * bound + seed, 90, 24)


if __name__ == "__main__":
    unittest.main()

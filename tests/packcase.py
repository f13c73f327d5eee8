"""What the tests of packs have in common."""

import copy
import unittest

from packdelta.errors import BadBound, BadRows, InRing, NoFit, NoVersion, PackError, TooFar
from packdelta.opening import opened
from reckoning import plain_chain, plain_done, rows_of, texts_for

REFUSALS = (BadBound, BadRows, InRing, NoFit, NoVersion, TooFar)


def coming(pack):
    """The number that the next version would have."""
    return copy.deepcopy(pack).store("", None)


def state(pack):
    """All that a pack tells of itself, and its next number."""
    return (pack.rows(), pack.numbers(), list(pack.bases().items()), pack.weight(), pack.bound,
            coming(pack))


def texts_of(pack):
    """The text of each version."""
    return {number: pack.read(number) for number in pack.numbers()}


def pack_of(bases, bound, texts=None):
    """A pack of versions with these bases."""
    return opened(rows_of(bases, texts or texts_for(bases)), bound)


class PackCase(unittest.TestCase):
    def check_whole(self, pack, texts):
        """What holds of each pack: points 1, 5, 6 and 12."""
        rows = pack.rows()
        numbers = [number for number, _, _ in rows]
        bases = {number: base for number, base, _ in rows}
        self.assertEqual(numbers, sorted(texts))
        self.assertEqual(pack.numbers(), numbers)
        self.assertEqual(list(pack.bases().items()), list(bases.items()))
        signs = 0
        for number, base, kept in rows:
            chain = plain_chain(bases, number)
            self.assertLessEqual(len(chain) - 1, pack.bound)
            self.assertEqual(pack.chain(number), chain)
            self.assertEqual(pack.base(number), base)
            self.assertEqual(pack.read(number), texts[number])
            behind = kept if base is None else plain_done(texts[base], kept)
            self.assertEqual(behind, texts[number])
            signs += len(kept) if base is None else len(kept[1]) + len(kept[2])
        self.assertEqual(pack.weight(), signs)

    def check_refused(self, refusal, deed, *handed):
        """The deed is refused so, and caught by this name and those above, by no other."""
        for caught in (refusal, PackError, ValueError):
            with self.assertRaises(caught) as told:
                deed(*handed)
            for other in REFUSALS:
                self.assertEqual(isinstance(told.exception, other), other is refusal)

    def check_refused_deed(self, pack, refusal, deed, *handed):
        """The deed of the pack is refused so, and changes nothing."""
        before, texts = state(pack), texts_of(pack)
        with self.subTest(deed=deed, handed=handed):
            self.check_refused(refusal, getattr(pack, deed), *handed)
        self.assertEqual(state(pack), before)
        self.check_whole(pack, texts)

"""Packs: versions of texts, most of them kept as changes from one another."""

from packdelta.changes import change_of, done, turned
from packdelta.errors import BadBound, InRing, NoVersion, TooFar
from packdelta.trees import chain_of, middle, reach


class Pack:
    """Versions of texts; no chain among them has more changes than the bound.

    Two dicts have the numbers of the kept versions as their keys. One gives
    the base's number, None for a whole version. The other gives what is kept:
    the text of a whole version, the change from its base's text of another.
    """

    def __init__(self, bound):
        # The kinds are compared because True and False are no numbers here.
        if type(bound) is not int or not 0 <= bound <= 1000:
            raise BadBound("a bound is a number from 0 to 1000")
        self.bound = bound
        self._bases = {}
        self._kept = {}
        # It does not follow from the kept versions: no number is used twice.
        self._next_number = 0

    def store(self, text, beside):
        """Keep a version more, and give its number."""
        if beside is not None:
            self._look_for(beside)
        number = self._next_number
        bases = {**self._bases, number: beside}
        if len(chain_of(bases, number)) - 1 <= self.bound:
            self._keep_text(number, beside, text)
        else:
            self._keep_beyond_bound(number, beside, text, bases)
        self._next_number = number + 1
        return number

    def read(self, number):
        """The version's text."""
        self._look_for(number)
        return self._text(number)

    def base(self, number):
        """The number of the version's base, None for a whole version."""
        self._look_for(number)
        return self._bases[number]

    def chain(self, number):
        """The version's chain."""
        self._look_for(number)
        return chain_of(self._bases, number)

    def numbers(self):
        """The numbers of all kept versions, rising."""
        return sorted(self._bases)

    def bases(self):
        """A dict from the number of each version, rising, to its base's or None."""
        return {number: self._bases[number] for number in self.numbers()}

    def rows(self):
        """A row for each kept version, by rising numbers."""
        return [(number, self._bases[number], self._kept[number]) for number in self.numbers()]

    def weight(self):
        """How many signs the rows have in their texts."""
        signs = 0
        for _, base, kept in self.rows():
            if base is None:
                signs += len(kept)
            else:
                _, gone, come = kept
                signs += len(gone) + len(come)
        return signs

    def root(self, number):
        """Root the version's tree at it."""
        self._look_for(number)
        if reach(self._bases, number) > self.bound:
            raise TooFar("a version of the tree lies farther away than the bound")
        self._root_at(number)

    def lean(self, number, other):
        """Let the version lean on the other one."""
        self._look_for(number)
        self._look_for(other)
        chain = chain_of(self._bases, other)
        if number in chain:
            raise InRing("the version stands in the other one's chain")
        # The change between the two makes up for the one by which the chain
        # is longer than it has changes.
        if self._most_leaning_on(number) + len(chain) > self.bound:
            raise TooFar("a chain would have more changes than the bound")
        self._keep_text(number, other, self._text(number))

    def forget(self, number):
        """Keep the version no more."""
        self._look_for(number)
        base = self._bases[number]
        leaning = [one for one in self.numbers() if self._bases[one] == number]
        if base is None and leaning:
            base = leaning.pop(0)
            self._keep_text(base, None, self._text(base))
        # The version goes last: the texts are read through it.
        for one in leaning:
            self._keep_text(one, base, self._text(one))
        del self._bases[number]
        del self._kept[number]

    def _take(self, rows):
        """Have these rows; the caller sees to it that they make a pack."""
        for number, base, kept in rows:
            self._keep(number, base, kept)
            self._next_number = number + 1

    def _look_for(self, number):
        """NoVersion for whatever is not the number of a kept version."""
        # The kind comes first: a list cannot be looked for in a dict, and
        # True would be found there as the number 1.
        if type(number) is not int or number not in self._bases:
            raise NoVersion("no kept version has this number")

    def _text(self, number):
        """The text of a version that is kept."""
        chain = chain_of(self._bases, number)
        text = self._kept[chain.pop()]
        for one in reversed(chain):
            text = done(text, self._kept[one])
        return text

    def _keep(self, number, base, kept):
        """Keep the version as this, in the place of what was kept of it."""
        self._bases[number] = base
        self._kept[number] = kept

    def _keep_text(self, number, base, text):
        """Keep the version whole, or as the change from its base's text."""
        if base is None:
            self._keep(number, None, text)
        else:
            self._keep(number, base, change_of(self._text(base), text))

    def _keep_beyond_bound(self, number, beside, text, bases):
        """Keep a new version whose chain has too many changes in these bases."""
        place = middle(bases, number)
        if reach(bases, place) > self.bound:
            self._keep_text(number, None, text)
        else:
            self._keep_text(number, beside, text)
            self._root_at(place)

    def _root_at(self, number):
        """Keep the version whole, and its chain as it was the other way about."""
        text = self._text(number)
        chain = chain_of(self._bases, number)
        changes = [turned(self._kept[one]) for one in chain[:-1]]
        self._keep(number, None, text)
        for ahead, one, change in zip(chain, chain[1:], changes):
            self._keep(one, ahead, change)

    def _most_leaning_on(self, number):
        """The most changes that lead from the version to one that leans on it, over any steps."""
        chains = [chain_of(self._bases, one) for one in self._bases]
        return max([chain.index(number) for chain in chains if number in chain])

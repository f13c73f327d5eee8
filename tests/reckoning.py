"""A second reckoning of packs, straight from the document, and what several tests use.

It shares nothing with the package. Each version's text is remembered here as
it was stored, and whatever the document describes is worked out plainly.
"""

# Signs of all kinds that a text may have, and line ends and tabs among them.
SIGNS = "".join(chr(code) for code in range(32, 127) if code != 37) + "\n\t"


class Dice:
    """Numbers that look mixed and are the same in every run."""

    def __init__(self, seed):
        self.state = seed * 2 + 1
        for _ in range(5):
            self.below(2)

    def below(self, many):
        """A number from nought to below this one."""
        self.state = (self.state * 6364136223846793005 + 1442695040888963407) % 2 ** 64
        return (self.state >> 33) % many

    def pick(self, choices):
        """One of these."""
        return choices[self.below(len(choices))]

    def mixed(self, choices):
        """These in another order."""
        left, order = list(choices), []
        while left:
            order.append(left.pop(self.below(len(left))))
        return order

    def text(self, many, signs=SIGNS):
        """A text of as many signs."""
        return "".join(self.pick(signs) for _ in range(many))

    def edited(self, text, signs="ab\n"):
        """A text that is somewhat like this one."""
        at = self.below(len(text) + 1)
        gone = self.below(3)
        return text[:at] + self.text(self.below(3), signs) + text[at + gone:]


def plain_change(old, new):
    """Point 4."""
    at = max(k for k in range(min(len(old), len(new)) + 1) if old.startswith(new[:k]))
    rest, rest_new = old[at:], new[at:]
    shorter = min(len(rest), len(rest_new))
    left = max(k for k in range(shorter + 1) if rest.endswith(rest_new[len(rest_new) - k:]))
    return (at, rest[:len(rest) - left], rest_new[:len(rest_new) - left])


def plain_fits(text, change):
    """Point 2."""
    at, gone, _ = change
    return at >= 0 and at + len(gone) <= len(text) and text.startswith(gone, at)


def plain_done(text, change):
    """Point 2."""
    at, gone, come = change
    assert plain_fits(text, change), (text, change)
    return text[:at] + come + text[at + len(gone):]


def longer(text, change, ahead, behind):
    """The same change of the text, with more signs in both of its texts than needed."""
    at, gone, come = change
    end = at + len(gone)
    start = max(0, at - ahead)
    before, after = text[start:at], text[end:end + behind]
    return (start, before + gone + after, before + come + after)


def plain_chain(bases, number):
    """Point 6."""
    if bases[number] is None:
        return [number]
    return [number] + plain_chain(bases, bases[number])


def plain_steps(bases, one, other):
    """How many changes lie between two versions, None for those of two trees (point 7)."""
    chain, other_chain = plain_chain(bases, one), plain_chain(bases, other)
    ways = [chain.index(n) + other_chain.index(n) for n in chain if n in other_chain]
    return min(ways) if ways else None


def plain_tree(bases, number):
    """The versions whose chains end where this one's does (point 6)."""
    return [one for one in bases if plain_chain(bases, one)[-1] == plain_chain(bases, number)[-1]]


def plain_reach(bases, number):
    """Point 7."""
    return max(plain_steps(bases, number, one) for one in plain_tree(bases, number))


def plain_middle(bases, number):
    """Point 7."""
    tree = plain_tree(bases, number)
    least = min(plain_reach(bases, one) for one in tree)
    return max(one for one in tree if plain_reach(bases, one) == least)


def rows_of(bases, texts):
    """Rows of versions with these bases and texts, each change as point 4 makes it."""
    rows = []
    for number in sorted(bases):
        base = bases[number]
        kept = texts[number] if base is None else plain_change(texts[base], texts[number])
        rows.append((number, base, kept))
    return rows


def texts_for(bases, seed=1, many=8):
    """A text for each of the versions, all alike in some of their signs."""
    dice = Dice(seed)
    text, texts = dice.text(many, "abc\n"), {}
    for number in sorted(bases):
        text = dice.edited(text, "abc\n")
        texts[number] = text
    return texts


class Refused(Exception):
    """A deed is refused; the message is the name of the refusal."""


class Reckoned:
    """What a pack has, by the plain words of the document."""

    def __init__(self, bound):
        self.bound = bound
        self.coming = 0
        self.texts = {}
        self.bases = {}
        self.changes = {}

    def rows(self):
        """Point 12."""
        return [(n, self.bases[n], self.texts[n] if self.bases[n] is None else self.changes[n])
                for n in sorted(self.bases)]

    def weight(self):
        """Point 12."""
        signs = 0
        for _, base, kept in self.rows():
            signs += len(kept) if base is None else len(kept[1]) + len(kept[2])
        return signs

    def longest(self, bases):
        """How many changes the longest chain has."""
        return max([len(plain_chain(bases, n)) - 1 for n in bases], default=0)

    def known(self, number):
        """Point 5."""
        if isinstance(number, bool) or not isinstance(number, int) or number not in self.bases:
            raise Refused("NoVersion")

    def whole(self, number):
        """Keep it whole."""
        self.bases[number] = None
        self.changes.pop(number, None)

    def leaning(self, number, base, change=None):
        """Keep it as a change, by point 4 where none is told."""
        self.bases[number] = base
        self.changes[number] = change or plain_change(self.texts[base], self.texts[number])

    def store(self, text, beside):
        """Point 8."""
        if beside is not None:
            self.known(beside)
        number, self.coming = self.coming, self.coming + 1
        self.texts[number] = text
        self.whole(number)
        if beside is None:
            return number
        bases = dict(self.bases)
        bases[number] = beside
        if len(plain_chain(bases, number)) - 1 <= self.bound:
            self.leaning(number, beside)
            return number
        middle = plain_middle(bases, number)
        if plain_reach(bases, middle) <= self.bound:
            self.leaning(number, beside)
            self.rooted(middle)
        return number

    def rooted(self, number):
        """Point 9."""
        chain, changes = plain_chain(self.bases, number), dict(self.changes)
        self.whole(number)
        for k in range(1, len(chain)):
            at, gone, come = changes[chain[k - 1]]
            self.leaning(chain[k], chain[k - 1], (at, come, gone))

    def root(self, number):
        """Point 9."""
        self.known(number)
        if plain_reach(self.bases, number) > self.bound:
            raise Refused("TooFar")
        self.rooted(number)

    def lean(self, number, other):
        """Point 10."""
        self.known(number)
        self.known(other)
        if number in plain_chain(self.bases, other):
            raise Refused("InRing")
        bases = dict(self.bases)
        bases[number] = other
        if self.longest(bases) > self.bound:
            raise Refused("TooFar")
        self.leaning(number, other)

    def forget(self, number):
        """Point 11."""
        self.known(number)
        base = self.bases[number]
        behind = sorted(n for n in self.bases if self.bases[n] == number)
        if base is None and behind:
            base = behind[0]
            self.whole(base)
            behind = behind[1:]
        for n in behind:
            self.leaning(n, base)
        del self.bases[number], self.texts[number]
        self.changes.pop(number, None)

    def opened(self, rows, bound):
        """Point 13, of rows of which each text and change is in order."""
        other = Reckoned(bound)
        other.texts = dict(self.texts)
        for number, base, kept in rows:
            other.bases[number] = base
            if base is not None:
                other.changes[number] = kept
            other.coming = number + 1
        if other.longest(other.bases) > bound:
            raise Refused("BadRows")
        return other

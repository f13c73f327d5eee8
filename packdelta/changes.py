"""Changes from one text to another.

A change is a tuple (at, gone, come): a place in the old text, the text that
goes from there, and the text that comes instead.
"""

from packdelta.errors import NoFit


def done(text, change):
    """The text behind the change; NoFit where the change does not fit."""
    at, gone, come = change
    if not _stands(text, at, gone):
        # The place is not named: Python refuses to write out very long numbers.
        raise NoFit("the change does not fit the text")
    return text[:at] + come + text[at + len(gone):]


def turned(change):
    """The change that leads back."""
    at, gone, come = change
    return (at, come, gone)


def change_of(old, new):
    """The change from the old text to the new one."""
    at = _alike(old, new)
    # The end is looked for behind the beginning only, so that the two never
    # lie over one another in the shorter text.
    left = _alike(old[at:][::-1], new[at:][::-1])
    return (at, old[at:len(old) - left], new[at:len(new) - left])


def _stands(text, at, part):
    """Whether the part stands in the text from the place on, all of it."""
    # A slice takes places below nought and beyond the end as well, so these
    # are ruled out first.
    return 0 <= at <= len(text) and text[at:at + len(part)] == part


def _alike(one, other):
    """The length of the longest beginning that both texts have alike."""
    for at, (sign, sign_beside) in enumerate(zip(one, other)):
        if sign != sign_beside:
            return at
    return min(len(one), len(other))

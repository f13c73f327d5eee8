"""Opening a pack from its rows."""

from packdelta.errors import BadRows, NoFit
from packdelta.packs import Pack


def opened(rows, bound):
    """A pack that has these rows; BadRows where no pack with the bound can have them."""
    # A bad bound is refused before the rows are looked at.
    pack = Pack(bound)
    _look_at_numbers([number for number, _, _ in rows])
    bases = {number: base for number, base, _ in rows}
    _look_at_bases(bases)
    _look_at_chains(bases, bound)
    pack._take(rows)
    _look_at_changes(pack)
    return pack


def _look_at_numbers(numbers):
    """BadRows where the numbers do not rise from nought or more."""
    ahead = -1
    for number in numbers:
        if number <= ahead:
            raise BadRows("the numbers of the rows do not rise")
        ahead = number


def _look_at_bases(bases):
    """BadRows where a base is not the number of a row."""
    for base in bases.values():
        # The kinds are compared because True and False are no numbers here.
        if base is not None and (type(base) is not int or base not in bases):
            raise BadRows("a base is no number of a row")


def _look_at_chains(bases, bound):
    """BadRows where a chain has more changes than the bound, or ends nowhere."""
    for number in bases:
        base = bases[number]
        changes = 0
        while base is not None:
            changes += 1
            # A chain that ends nowhere has more changes than any bound.
            if changes > bound:
                raise BadRows("a chain has more changes than the bound")
            base = bases[base]


def _look_at_changes(pack):
    """BadRows where a change does not fit the text of its base."""
    for number in pack.numbers():
        try:
            pack.read(number)
        except NoFit:
            raise BadRows("a change does not fit the text of its base") from None

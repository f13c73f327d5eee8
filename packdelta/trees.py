"""Trees of versions, told by a dict from their numbers to their bases' numbers."""


def chain_of(bases, number):
    """The version's chain: its number, its base's, and so on to a whole one's."""
    chain = [number]
    base = bases[number]
    while base is not None:
        chain.append(base)
        base = bases[base]
    return chain


def reach(bases, number):
    """How many changes lie between the version and the farthest one of its tree."""
    return _farthest(_neighbours(bases), number)


def middle(bases, number):
    """The number of the version with the least reach in the version's tree."""
    neighbours = _neighbours(bases)
    # The numbers are made negative so that of several with the least reach
    # the one with the greatest number comes first.
    ranks = [(_farthest(neighbours, one), -one) for one in _steps_from(neighbours, number)]
    return -min(ranks)[1]


def _neighbours(bases):
    """A list for each version: its base and those that lean on it."""
    neighbours = {number: [] for number in bases}
    for number, base in bases.items():
        if base is not None:
            neighbours[number].append(base)
            neighbours[base].append(number)
    return neighbours


def _farthest(neighbours, number):
    """How many steps away the farthest version of the tree is."""
    return max(_steps_from(neighbours, number).values())


def _steps_from(neighbours, number):
    """A dict from each version of the tree to how many steps away it is."""
    steps = {number: 0}
    layer = [number]
    while layer:
        behind = []
        for one in layer:
            for other in neighbours[one]:
                if other not in steps:
                    steps[other] = steps[one] + 1
                    behind.append(other)
        layer = behind
    return steps

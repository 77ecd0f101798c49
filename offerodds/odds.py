"""A list of items with their chances to be there, and what follows of it."""

from offerodds.ratios import lowest, plus


class Held:
    """The items that beat each item, and each item's chance to be there.

    The chance of an item is its numerator / q.
    """

    def __init__(self, beaters):
        self.beaters = beaters
        self.q = 1
        self.numerators = [1 for item in beaters]


def item_count(held):
    return len(held.beaters)


def unbeaten_chance(held, item):
    """The item is there, and each one that would beat it is away.

    No item depends on another one, and whether the rest is there changes
    nothing, so this product is what all worlds together come to.
    """
    above = held.numerators[item]
    below = held.q
    for beater in held.beaters[item]:
        above *= held.q - held.numerators[beater]
        below *= held.q
    return lowest(above, below)


def all_chances(held):
    return [unbeaten_chance(held, item) for item in range(item_count(held))]


def mean_unbeaten(held):
    total = [0, 1]
    for chance in all_chances(held):
        total = plus(total, chance)
    return total

"""A list of items with their chances to be there, and what follows for each.

All chances of one list are told over the same whole: a q for each item,
multiplied. What stands above the whole is a weight.
"""

from offerodds.ratios import lowest


class Held:
    """The items that beat each item, and each item's chance to be there.

    The chance of an item is its numerator / q.
    """

    def __init__(self, beaters, q, numerators):
        self.beaters = beaters
        self.q = q
        self.numerators = numerators


def sure_ones(beaters):
    """A list all of whose items are there for sure."""
    return Held(beaters, 1, [1 for item in beaters])


def with_numerator(held, item, numerator):
    """The same list, but for how likely this one item is there."""
    numerators = list(held.numerators)
    numerators[item] = numerator
    return Held(held.beaters, held.q, numerators)


def item_count(held):
    return len(held.beaters)


def chance_of(held, weight):
    whole = 1
    for item in held.beaters:
        whole *= held.q
    return lowest(weight, whole)


def worlds_weight(held, there, away):
    """The weight of the worlds in which the ones are there, the others away.

    No item depends on another one, so this product is what all these worlds
    together come to; an item that is in neither list may be there or not.
    """
    weight = 1
    for item, numerator in enumerate(held.numerators):
        if item in there:
            weight *= numerator
        elif item in away:
            weight *= held.q - numerator
        else:
            weight *= held.q
    return weight


def unbeaten_weight(held, item):
    return worlds_weight(held, [item], held.beaters[item])


def unbeaten_weights(held):
    return [unbeaten_weight(held, item) for item in range(item_count(held))]


def unbeaten_chance(held, item):
    return chance_of(held, unbeaten_weight(held, item))


def all_chances(held):
    return [chance_of(held, weight) for weight in unbeaten_weights(held)]


def mean_unbeaten(held):
    return chance_of(held, sum(unbeaten_weights(held)))


def likeliest_first(held):
    """The items' numbers, in order of their chances to be unbeaten."""
    weights = unbeaten_weights(held)
    # Alike ones stay as they are walked: the lesser number first.
    return sorted(range(len(weights)), key=lambda item: -weights[item])

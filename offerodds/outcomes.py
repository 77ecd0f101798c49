"""The sets of items that may be just the unbeaten ones, and their chances.

Where all sets are gone through, a set is a number with a bit for each of its
items, the highest for item 0: so a set that comes before another one is the
greater number.
"""

from offerodds.odds import chance_of, item_count, worlds_weight


def is_beaten(held, item, items):
    return any([beater in items for beater in held.beaters[item]])


def just_set_chance(held, items):
    """How likely just these items are the unbeaten ones.

    What is there and beaten is beaten by an unbeaten one, too: so each item
    beside these is beaten by one of them, or has to be away.
    """
    if any([is_beaten(held, item, items) for item in items]):
        return chance_of(held, 0)
    others = [item for item in range(item_count(held)) if item not in items]
    away = [item for item in others if not is_beaten(held, item, items)]
    return chance_of(held, worlds_weight(held, items, away))


def bit_of(held, item):
    return 1 << (item_count(held) - 1 - item)


def bits_of(held, items):
    return sum([bit_of(held, item) for item in items])


def items_of(held, bits):
    return [item for item in range(item_count(held)) if bits & bit_of(held, item) != 0]


def set_weights(held):
    """The weight of each set in which no item beats another one."""
    weights = {0: 1}
    # An item has more beaters than each of those that beat it, as whatever
    # beats these beats it, too: so it comes behind them all.
    order = sorted(range(item_count(held)), key=lambda item: len(held.beaters[item]))
    for item in order:
        weights = joined_by(held, weights, item)
    return weights


def joined_by(held, weights, item):
    """The sets' weights when one more item may be there.

    It beats none that is in a set already; and no set comes about in two
    ways, as each tells by itself whether this item is in it.
    """
    own_bit = bit_of(held, item)
    beaters = bits_of(held, held.beaters[item])
    grown = {}
    for bits, weight in weights.items():
        if bits & beaters != 0:
            grown[bits] = weight * held.q
        else:
            grown[bits + own_bit] = weight * held.numerators[item]
            grown[bits] = weight * (held.q - held.numerators[item])
    return grown


def likeliest_set(held):
    """The first of the sets that no other one is likelier than, in order."""
    weights = set_weights(held)
    most = max(weights.values())
    return items_of(held, max([bits for bits, weight in weights.items() if weight == most]))


def count_chances(held):
    """For each number from 0 on the chance that just so many are unbeaten."""
    sums = [0 for number in range(item_count(held) + 1)]
    for bits, weight in set_weights(held).items():
        sums[len(items_of(held, bits))] += weight
    return [chance_of(held, weight) for weight in sums]

"""What each call but load answers, on a list that is held."""

from offerodds.odds import all_chances, item_count, likeliest_first, mean_unbeaten, unbeaten_chance, with_numerator
from offerodds.outcomes import count_chances, just_set_chance, likeliest_set

MOST_Q = 100
MOST_TOP = 16
# What goes through all sets is refused if there are more items than these.
MOST_FOR_SETS = 12


def is_item(held, number):
    return 0 <= number < item_count(held)


def set_chances(held, call):
    q = call.singles[0]
    if not are_chances(held, q, call.row):
        return [-4]
    held.q = q
    held.numerators = list(call.row)
    return [1]


def are_chances(held, q, numerators):
    if q < 1 or q > MOST_Q or len(numerators) != item_count(held):
        return False
    return all([0 <= numerator <= q for numerator in numerators])


def tell_unbeaten(held, call):
    item = call.singles[0]
    if not is_item(held, item):
        return [-2]
    return [1] + unbeaten_chance(held, item)


def tell_all(held, call):
    return counted(all_chances(held))


def counted(chances):
    """How many chances there are, and they."""
    told = [len(chances)]
    for chance in chances:
        told.extend(chance)
    return told


def tell_mean(held, call):
    return [1] + mean_unbeaten(held)


def tell_just_set(held, call):
    items = call.row
    if not all([is_item(held, item) for item in items]) or len(set(items)) < len(items):
        return [-2]
    return [1] + just_set_chance(held, items)


def tell_likely(held, call):
    if item_count(held) > MOST_FOR_SETS:
        return [-9]
    items = likeliest_set(held)
    return [1] + just_set_chance(held, items) + [len(items)] + items


def tell_top(held, call):
    most = call.singles[0]
    if most < 0 or most > MOST_TOP:
        return [-3]
    first = likeliest_first(held)[:most]
    return [len(first)] + first


def tell_given(held, call):
    item = call.singles[0]
    other = call.singles[1]
    there = call.singles[2]
    if not is_item(held, item) or not is_item(held, other):
        return [-2]
    if there != 0 and there != 1:
        return [-5]
    known = there * held.q
    # It is for sure the other way round, so never as is said to be known.
    if held.numerators[other] == held.q - known:
        return [-8]
    return [1] + unbeaten_chance(with_numerator(held, other, known), item)


def tell_counts(held, call):
    if item_count(held) > MOST_FOR_SETS:
        return [-9]
    return counted(count_chances(held))


# By a call's number.
TELLING = {
    1: set_chances, 2: tell_unbeaten, 3: tell_all, 4: tell_mean, 5: tell_just_set, 6: tell_likely, 7: tell_top,
    8: tell_given, 9: tell_counts,
}


def tell(held, call):
    return TELLING[call.number](held, call)

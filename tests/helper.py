"""Builds calls by their names, hands them in and parts what is answered.

Also tells from all worlds, one by one, what should be answered.
"""

from fractions import Fraction
from random import Random

from offerodds.offers import answers

GREAT = 10 ** 18
WORKED = (
    "measures price down, size up ; item a : 10, 5 ; item b : 8, 3 ; "
    "item c : 12, 9 ; item d : 12, 5 ; item e : 8, 3 ;"
)


def load(text):
    """The text as a str of ASCII, or as bytes."""
    row = list(text.encode("ascii") if isinstance(text, str) else text)
    return [0, len(row)] + row


def chances(q, numerators):
    return [1, q, len(numerators)] + list(numerators)


def unbeaten(item):
    return [2, item]


def all_items():
    return [3]


def mean():
    return [4]


def just_set(items):
    return [5, len(items)] + list(items)


def likely():
    return [6]


def top(k):
    return [7, k]


def given(i, j, v):
    return [8, i, j, v]


def counts():
    return [9]


def joined(calls):
    return [number for call in calls for number in call]


def parted(told):
    """The flat answer, as a list for each call."""
    parts = []
    place = 0
    while place < len(told):
        end = place + 1 + told[place]
        if end > len(told):
            raise AssertionError(f"a count reaches behind the end: {told}")
        parts.append(told[place + 1:end])
        place = end
    return parts


def ask(*calls):
    """The answer of each call; also sees to it that nothing was changed."""
    flat = joined(calls)
    before = list(flat)
    told = answers(flat)
    if flat != before:
        raise AssertionError("the list that was handed in has changed")
    if any(type(number) is not int for number in told):
        raise AssertionError(f"not whole numbers alone: {told}")
    parts = parted(told)
    if len(parts) != len(calls):
        raise AssertionError(f"{len(calls)} calls, {len(parts)} answers")
    return parts


def listed(turns, rows):
    """The text of a list in one form; turns are texts, up or down."""
    measures = ", ".join(f"m{k} {turn}" for k, turn in enumerate(turns))
    lines = [f"measures {measures} ;"]
    for k, row in enumerate(rows):
        lines.append(f"item i{k} : {', '.join(str(value) for value in row)} ;")
    return "".join(line + "\n" for line in lines)


def alike(how_many):
    """A load of items that are the same by all measures: none beats another one."""
    return load(listed(["up", "down"], [[7, 7]] * how_many))


def ask_many(ahead, calls):
    """The answer of each call, each behind the same calls; 20 at most go in at a time."""
    told = []
    room = 20 - len(ahead)
    for start in range(0, len(calls), room):
        told.extend(ask(*ahead, *calls[start:start + room])[len(ahead):])
    return told


def fractions(numbers):
    """The fractions that are told; each has to be in lowest terms."""
    if len(numbers) != len(numbers) // 2 * 2:
        raise AssertionError(f"half a fraction: {numbers}")
    told = []
    for above, below in zip(numbers[0::2], numbers[1::2]):
        fraction = Fraction(above, below)
        if [fraction.numerator, fraction.denominator] != [above, below]:
            raise AssertionError(f"not in lowest terms: {above} / {below}")
        told.append(fraction)
    return told


def chance(told):
    """The one fraction behind a 1."""
    if len(told) != 3 or told[0] != 1:
        raise AssertionError(f"not a 1 and a fraction: {told}")
    return fractions(told[1:])[0]


def counted(told):
    """The fractions behind how many they are."""
    if 2 * told[0] != len(told) - 1:
        raise AssertionError(f"not as many fractions as are told: {told}")
    return fractions(told[1:])


def beats(turns, one, other):
    good = [a >= b if turn == "up" else a <= b for turn, a, b in zip(turns, one, other)]
    return all(good) and one != other


def outcomes(turns, rows, q, numerators):
    """Each set that is ever just the unbeaten ones, a tuple, and its chance: from all worlds one by one."""
    against = [sum(1 << j for j, other in enumerate(rows) if beats(turns, other, row)) for row in rows]
    sums = {}
    for world in range(1 << len(rows)):
        weight = 1
        for k, numerator in enumerate(numerators):
            weight *= numerator if world >> k & 1 else q - numerator
        if weight > 0:
            best = tuple(k for k in range(len(rows)) if world >> k & 1 and not world & against[k])
            sums[best] = sums.get(best, 0) + weight
    return {best: Fraction(weight, q ** len(rows)) for best, weight in sums.items()}


def item_chances(how_many, sets):
    return [sum(chance for best, chance in sets.items() if k in best) for k in range(how_many)]


def count_chances(how_many, sets):
    return [sum(chance for best, chance in sets.items() if len(best) == k) for k in range(how_many + 1)]


def likeliest(how_many, sets):
    """The greatest chance, and of the sets that have it the first."""
    greatest = max(sets.values())
    best = [items for items, chance in sets.items() if chance == greatest]
    # One that has an item comes before one that has not: False stands before True.
    return greatest, min(best, key=lambda items: [k not in items for k in range(how_many)])


def some_lists(seed, how_many, fewest=0, most=6):
    """Lists from a fixed seed; few values, so that many are alike, and chances of 0 and of 1 among others."""
    source = Random(seed)
    for turn in range(how_many):
        turns = [source.choice(["up", "down"]) for measure in range(source.randint(1, 4))]
        rows = [[source.randint(-2, 2) for turn in turns] for item in range(source.randint(fewest, most))]
        q = source.choice([1, 2, 2, 3, 4, 10, 60, 97, 100])
        numerators = [source.choice([0, q, source.randint(0, q), source.randint(0, q), q // 2]) for row in rows]
        yield turns, rows, q, numerators

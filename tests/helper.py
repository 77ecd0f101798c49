"""Builds calls by their names, hands them in and parts what is answered."""

from offerodds.offers import answers

WORKED = (
    "measures price down, size up ; item a : 10, 5 ; item b : 8, 3 ; "
    "item c : 12, 9 ; item d : 12, 5 ; item e : 8, 3 ;"
)


def load(text):
    """The text as a str of ASCII, or as bytes."""
    row = list(text.encode("ascii") if isinstance(text, str) else text)
    return [0, len(row)] + row


def chances(q, numerators):
    return [1, q, len(numerators)] + list(numerators)


def unbeaten(item):
    return [2, item]


def all_items():
    return [3]


def mean():
    return [4]


def just_set(items):
    return [5, len(items)] + list(items)


def likely():
    return [6]


def top(k):
    return [7, k]


def given(i, j, v):
    return [8, i, j, v]


def counts():
    return [9]


def joined(calls):
    return [number for call in calls for number in call]


def parted(told):
    """The flat answer, as a list for each call."""
    parts = []
    place = 0
    while place < len(told):
        end = place + 1 + told[place]
        if end > len(told):
            raise AssertionError(f"a count reaches behind the end: {told}")
        parts.append(told[place + 1:end])
        place = end
    return parts


def ask(*calls):
    """The answer of each call; also sees to it that nothing was changed."""
    flat = joined(calls)
    before = list(flat)
    told = answers(flat)
    if flat != before:
        raise AssertionError("the list that was handed in has changed")
    if any(type(number) is not int for number in told):
        raise AssertionError(f"not whole numbers alone: {told}")
    parts = parted(told)
    if len(parts) != len(calls):
        raise AssertionError(f"{len(calls)} calls, {len(parts)} answers")
    return parts


def listed(turns, rows):
    """The text of a list in one form; turns are texts, up or down."""
    measures = ", ".join(f"m{k} {turn}" for k, turn in enumerate(turns))
    lines = [f"measures {measures} ;"]
    for k, row in enumerate(rows):
        lines.append(f"item i{k} : {', '.join(str(value) for value in row)} ;")
    return "".join(line + "\n" for line in lines)

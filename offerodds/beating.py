"""Which items beat which others."""


def beats(one, other):
    """Whether an item beats another one; more is better by every measure."""
    better = False
    for mine, others in zip(one, other):
        if mine < others:
            return False
        if mine > others:
            better = True
    return better


def all_beaters(merits):
    """For each item the numbers of those that beat it, in order."""
    return [beaters_of(merits, item) for item in merits]


def beaters_of(merits, item):
    return [number for number, one in enumerate(merits) if beats(one, item)]

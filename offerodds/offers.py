"""The calls on one object, answered one behind another."""

from offerodds.beating import all_beaters
from offerodds.faults import Fault
from offerodds.odds import Held, all_chances, item_count, mean_unbeaten, unbeaten_chance
from offerodds.reading import read_list

LOAD = 0
MOST_Q = 100
# By a call's number: how many single numbers it has, ahead of its row.
SINGLES = (0, 1, 1, 0, 0, 0, 0, 1, 3, 0)
WITH_ROW = (0, 1, 5)


class Call:
    """A call as it is handed in; the end is the place behind it."""

    def __init__(self, number, singles, row, end):
        self.number = number
        self.singles = singles
        self.row = row
        self.end = end


class Desk:
    """The object that is called: it holds a list with chances, or None."""

    def __init__(self):
        self.held = None


def call_at(calls, place):
    number = calls[place]
    start = place + 1
    end = start + SINGLES[number]
    singles = calls[start:end]
    row = []
    if number in WITH_ROW:
        start = end + 1
        end = start + calls[end]
        row = calls[start:end]
    return Call(number, singles, row, end)


def load(desk, text):
    try:
        told = read_list(text)
    except Fault as fault:
        return [0, fault.code, fault.place]
    desk.held = Held(all_beaters(told.merits))
    return [1, told.measures, len(told.merits)]


def set_chances(held, call):
    q = call.singles[0]
    if not are_chances(held, q, call.row):
        return [-4]
    held.q = q
    held.numerators = list(call.row)
    return [1]


def are_chances(held, q, numerators):
    if q < 1 or q > MOST_Q or len(numerators) != item_count(held):
        return False
    return all([0 <= numerator <= q for numerator in numerators])


def tell_unbeaten(held, call):
    item = call.singles[0]
    if item < 0 or item >= item_count(held):
        return [-2]
    return [1] + unbeaten_chance(held, item)


def tell_all(held, call):
    told = [item_count(held)]
    for chance in all_chances(held):
        told.extend(chance)
    return told


def tell_mean(held, call):
    return [1] + mean_unbeaten(held)


TELLING = {1: set_chances, 2: tell_unbeaten, 3: tell_all, 4: tell_mean}


def answer(desk, call):
    if call.number == LOAD:
        return load(desk, call.row)
    if desk.held is None:
        return [-1]
    if call.number in TELLING:
        return TELLING[call.number](desk.held, call)
    # The calls 5 to 9 are not built yet: nothing is told, nothing changes.
    return []


def answers(calls):
    """What each call answers: how many numbers, then these."""
    desk = Desk()
    told = []
    place = 0
    while place < len(calls):
        call = call_at(calls, place)
        numbers = answer(desk, call)
        told.append(len(numbers))
        told.extend(numbers)
        place = call.end
    return told

"""The calls on one object, answered one behind another."""

from offerodds.beating import all_beaters
from offerodds.faults import Fault
from offerodds.odds import sure_ones
from offerodds.reading import read_list
from offerodds.telling import tell

LOAD = 0
# By a call's number: how many single numbers it has, ahead of its row.
SINGLES = (0, 1, 1, 0, 0, 0, 0, 1, 3, 0)
WITH_ROW = (0, 1, 5)


class Call:
    """A call as it is handed in; the end is the place behind it."""

    def __init__(self, number, singles, row, end):
        self.number = number
        self.singles = singles
        self.row = row
        self.end = end


class Desk:
    """The object that is called: it holds a list with chances, or None."""

    def __init__(self):
        self.held = None


def call_at(calls, place):
    number = calls[place]
    start = place + 1
    end = start + SINGLES[number]
    singles = calls[start:end]
    row = []
    if number in WITH_ROW:
        start = end + 1
        end = start + calls[end]
        row = calls[start:end]
    return Call(number, singles, row, end)


def load(desk, text):
    try:
        told = read_list(text)
    except Fault as fault:
        return [0, fault.code, fault.place]
    desk.held = sure_ones(all_beaters(told.merits))
    return [1, told.measures, len(told.merits)]


def answer(desk, call):
    if call.number == LOAD:
        return load(desk, call.row)
    if desk.held is None:
        return [-1]
    return tell(desk.held, call)


def answers(calls):
    """What each call answers: how many numbers, then these."""
    desk = Desk()
    told = []
    place = 0
    while place < len(calls):
        call = call_at(calls, place)
        numbers = answer(desk, call)
        told.append(len(numbers))
        told.extend(numbers)
        place = call.end
    return told

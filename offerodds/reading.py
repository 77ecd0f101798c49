"""A text read as a list of measures and items."""

from offerodds.faults import Fault
from offerodds.tokens import tokens_of

TOO_LONG = 1
NOT_ALLOWED = 3
TOO_MANY = 4
NAME_AGAIN = 5
TOO_GREAT = 7
MOST_BYTES = 4096
MOST_MEASURES = 4
MOST_ITEMS = 16
MOST_VALUE = 1000


class Told:
    """What a right text tells: how many measures, and each item's merits.

    A merit is a value with its sign turned where less is better, so that
    more is better by every measure.
    """

    def __init__(self, measures, merits):
        self.measures = measures
        self.merits = merits


class Reader:
    """Goes through the tokens; nothing is read behind the text's end."""

    def __init__(self, tokens):
        self.tokens = tokens
        self.at = 0

    def sees(self, kind):
        return self.tokens[self.at].kind == kind

    def take(self, kind):
        token = self.tokens[self.at]
        if token.kind != kind:
            raise Fault(NOT_ALLOWED, token.place)
        self.at += 1
        return token


def read_list(text):
    """What the text tells; a Fault if it is not right."""
    if len(text) > MOST_BYTES:
        raise Fault(TOO_LONG, MOST_BYTES)
    reader = Reader(tokens_of(text))
    turns = read_measures(reader)
    items = read_items(reader, turns)
    reader.take("end")
    return Told(len(turns), items)


def read_measures(reader):
    """For each measure 1, or -1 where less is better."""
    reader.take("measures")
    names = {}
    turns = [read_measure(reader, names)]
    while reader.sees(","):
        reader.take(",")
        turns.append(read_measure(reader, names))
    reader.take(";")
    return turns


def read_measure(reader, names):
    token = reader.take("name")
    # A name too many is told as such even if an earlier measure has it.
    if len(names) == MOST_MEASURES:
        raise Fault(TOO_MANY, token.place)
    keep_name(names, token)
    if reader.sees("down"):
        reader.take("down")
        return -1
    reader.take("up")
    return 1


def keep_name(names, token):
    if token.value in names:
        raise Fault(NAME_AGAIN, token.place)
    names[token.value] = True


def read_items(reader, turns):
    names = {}
    items = []
    while reader.sees("item"):
        word = reader.take("item")
        if len(items) == MOST_ITEMS:
            raise Fault(TOO_MANY, word.place)
        keep_name(names, reader.take("name"))
        reader.take(":")
        items.append(read_merits(reader, turns))
        reader.take(";")
    return items


def read_merits(reader, turns):
    merits = []
    for turn in turns:
        if len(merits) > 0:
            reader.take(",")
        merits.append(turn * read_value(reader))
    return merits


def read_value(reader):
    sign = 1
    if reader.sees("-"):
        reader.take("-")
        sign = -1
    token = reader.take("number")
    if token.value > MOST_VALUE:
        raise Fault(TOO_GREAT, token.place)
    return sign * token.value

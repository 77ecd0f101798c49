"""The tokens of a text, in order, each with its place."""

from offerodds.faults import Fault

NO_TOKEN = 2
MOST_NAME_BYTES = 16
MOST_NUMBER = 1000000000
MOST_DIGITS = 10
BLANKS = (32, 9, 10)
REMARK = 35
ROW_END = 10
ZERO = 48
WORDS = ("measures", "up", "down", "item")
SIGNS = {44: ",", 58: ":", 59: ";", 45: "-"}


class Token:
    """A word, a name, a number, a sign or the text's end.

    The kind of a word or a sign is its own spelling. The end is the place
    behind the token's last byte.
    """

    def __init__(self, kind, place, end, value):
        self.kind = kind
        self.place = place
        self.end = end
        self.value = value


def is_letter(byte):
    return 65 <= byte <= 90 or 97 <= byte <= 122


def is_digit(byte):
    return 48 <= byte <= 57


def tokens_of(text):
    """All tokens, the text's end the last of them; a Fault if one is wrong."""
    tokens = []
    place = behind_blanks(text, 0)
    while place < len(text):
        token = token_at(text, place)
        tokens.append(token)
        place = behind_blanks(text, token.end)
    tokens.append(Token("end", len(text), len(text), 0))
    return tokens


def behind_blanks(text, place):
    """The first place from this one on that is in no blank and no remark."""
    while place < len(text):
        if text[place] == REMARK:
            place = behind_remark(text, place)
        elif text[place] in BLANKS:
            place += 1
        else:
            return place
    return place


def behind_remark(text, place):
    while place < len(text) and text[place] != ROW_END:
        place += 1
    return place


def token_at(text, place):
    byte = text[place]
    if is_letter(byte):
        return word_at(text, place)
    if is_digit(byte):
        return number_at(text, place)
    if byte in SIGNS:
        return Token(SIGNS[byte], place, place + 1, 0)
    raise Fault(NO_TOKEN, place)


def word_at(text, place):
    end = place
    while end < len(text) and (is_letter(text[end]) or is_digit(text[end])):
        end += 1
    if end - place > MOST_NAME_BYTES:
        raise Fault(NO_TOKEN, place)
    spelling = text[place:end]
    return Token(word_kind(spelling), place, end, tuple(spelling))


def word_kind(spelling):
    for word in WORDS:
        if spelling == [ord(letter) for letter in word]:
            return word
    return "name"


def number_at(text, place):
    end = place
    while end < len(text) and is_digit(text[end]):
        end += 1
    digits = end - place
    if digits > MOST_DIGITS or (digits > 1 and text[place] == ZERO):
        raise Fault(NO_TOKEN, place)
    value = 0
    for byte in text[place:end]:
        value = value * 10 + byte - ZERO
    if value > MOST_NUMBER:
        raise Fault(NO_TOKEN, place)
    return Token("number", place, end, value)

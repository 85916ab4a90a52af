"""The tokens of a system's text."""

from enclosedrays.intervals import whole
from enclosedrays.numerals import POINT, digits_end, digits_value, is_digit, pointed_value
from enclosedrays.refusals import TextFault

WORDS = (
    "after", "clear", "conic", "curve", "flat", "glass", "into", "mirror", "radius", "start", "stop", "surface",
)
MARKS = ":,;/-"
BLANKS = (9, 10, 13, 32)
LINE_FEED = 10
HASH = 35
UNDERLINE = 95

LONGEST_NAME = 32
MOST_DIGITS = 18

NO_TOKEN = 1


class Token:
    """One token: from place to before behind.

    Its kind is a word or a mark itself, or "name", "whole", "pointed" or "end";
    its value is a name's bytes or a number's Interval, else None.
    """

    def __init__(self, kind, place, behind, value):
        self.kind = kind
        self.place = place
        self.behind = behind
        self.value = value


def begins_name(byte):
    return 65 <= byte <= 90 or 97 <= byte <= 122 or byte == UNDERLINE


def is_of_name(byte):
    return begins_name(byte) or is_digit(byte)


def comment_end(text, place):
    while place < len(text) and text[place] != LINE_FEED:
        place += 1
    return place


def skip_blanks(text, place):
    while place < len(text):
        if text[place] == HASH:
            place = comment_end(text, place)
        elif text[place] in BLANKS:
            place += 1
        else:
            return place
    return place


def bytes_of(word):
    return tuple([ord(sign) for sign in word])


def name_or_word(text, place):
    behind = place
    while behind < len(text) and is_of_name(text[behind]):
        behind += 1
    if behind - place > LONGEST_NAME:
        raise TextFault(place, NO_TOKEN)
    name = tuple(text[place:behind])
    for word in WORDS:
        if bytes_of(word) == name:
            return Token(word, place, behind, None)
    return Token("name", place, behind, name)


def may_end_number(text, behind):
    return behind == len(text) or not (is_of_name(text[behind]) or text[behind] == POINT)


def number_token(text, place):
    middle = digits_end(text, place)
    behind = middle
    pointed = middle + 1 < len(text) and text[middle] == POINT and is_digit(text[middle + 1])
    if pointed:
        behind = digits_end(text, middle + 1)
    digits = behind - place - 1 if pointed else behind - place
    if digits > MOST_DIGITS or not may_end_number(text, behind):
        raise TextFault(place, NO_TOKEN)
    if pointed:
        return Token("pointed", place, behind, pointed_value(text, place, middle, behind))
    return Token("whole", place, behind, whole(digits_value(text, place, behind)))


def scan(text, place):
    """The first token from place on; TextFault where none begins."""
    place = skip_blanks(text, place)
    if place == len(text):
        return Token("end", place, place, None)
    if begins_name(text[place]):
        return name_or_word(text, place)
    if is_digit(text[place]):
        return number_token(text, place)
    for mark in MARKS:
        if ord(mark) == text[place]:
            return Token(mark, place, place + 1, None)
    raise TextFault(place, NO_TOKEN)

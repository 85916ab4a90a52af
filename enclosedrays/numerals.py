"""Digits, numbers handed over, and exact texts."""

from enclosedrays.intervals import number
from enclosedrays.refusals import NotTaken, TooGreat

POINT = 46
STROKE = 47
MINUS = 45

LONGEST_HANDED_OVER = 512
HANDED_OVER_BELOW = 1_000_000_000_000_000_000
TOLD_BITS = 4096


def is_digit(byte):
    return 48 <= byte <= 57


def digits_end(text, place):
    """The place behind the digits that begin at place (place itself if none do)."""
    while place < len(text) and is_digit(text[place]):
        place += 1
    return place


def digits_value(text, place, behind):
    value = 0
    for k in range(place, behind):
        value = value * 10 + text[k] - 48
    return value


def pointed_value(text, place, point, behind):
    """The number whose digits go from place to behind, but for the point between them."""
    bottom = 1
    for k in range(point + 1, behind):
        bottom = bottom * 10
    top = digits_value(text, place, point) * bottom + digits_value(text, point + 1, behind)
    return number(top, bottom)


def common_measure(a, b):
    while b != 0:
        rest = a % b
        a = b
        b = rest
    return a


def least_terms(top, bottom):
    measure = common_measure(abs(top), bottom)
    return (top // measure, bottom // measure)


def unsigned_value(text, place):
    """The number whose text, without a sign, goes from place to the end."""
    middle = digits_end(text, place)
    if middle == place:
        raise NotTaken()
    if middle == len(text):
        return number(digits_value(text, place, middle), 1)
    behind = digits_end(text, middle + 1)
    if behind == middle + 1 or behind < len(text):
        raise NotTaken()
    if text[middle] == POINT:
        return pointed_value(text, place, middle, behind)
    bottom = digits_value(text, middle + 1, behind)
    if text[middle] != STROKE or bottom == 0:
        raise NotTaken()
    return number(digits_value(text, place, middle), bottom)


def handed_over(text):
    """The number handed over as text; NotTaken if it's none."""
    if len(text) == 0 or len(text) > LONGEST_HANDED_OVER:
        raise NotTaken()
    below_zero = text[0] == MINUS
    value = unsigned_value(text, 1 if below_zero else 0)
    terms = least_terms(value.low, value.size)
    if max(terms) >= HANDED_OVER_BELOW:
        raise NotTaken()
    return number(-terms[0] if below_zero else terms[0], terms[1])


def exact_text(top, bottom):
    """The exact text of top by bottom; TooGreat if it's not to be told."""
    terms = least_terms(top, bottom)
    # Checked ahead of str, which Python refuses for numbers of some thousand digits.
    if max(terms[0].bit_length(), terms[1].bit_length()) > TOLD_BITS:
        raise TooGreat()
    above = str(terms[0])
    below = str(terms[1])
    return above if below == "1" else f"{above}/{below}"

"""Ratios: tuples (top, bottom) of two integers in lowest terms, with a bottom of at least 1."""

from math import gcd

from everyhint.errors import BadRatio, BadText
from everyhint.shapes import is_row

LONGEST_TEXT = 60
CHUNK_DIGITS = 60
CHUNK = 10 ** 60


def is_ratio(value):
    """Whether a value is a ratio, in lowest terms."""
    if not isinstance(value, tuple) or not is_row(value, 2):
        return False
    return value[1] >= 1 and gcd(value[0], value[1]) == 1


def ratio(top, bottom=1):
    """The ratio top / bottom."""
    if bottom == 0:
        raise BadRatio(bottom)
    common = gcd(top, bottom)
    if bottom < 0:
        common = -common
    return (top // common, bottom // common)


def plus(one, other):
    """The sum of two ratios."""
    return ratio(one[0] * other[1] + other[0] * one[1], one[1] * other[1])


def minus(one, other):
    """The difference of two ratios."""
    return ratio(one[0] * other[1] - other[0] * one[1], one[1] * other[1])


def times(one, other):
    """The product of two ratios."""
    return ratio(one[0] * other[0], one[1] * other[1])


def compare(one, other):
    """1 if the first of two ratios is greater, -1 if it is less, and otherwise 0."""
    left = one[0] * other[1]
    right = other[0] * one[1]
    if left > right:
        return 1
    if left < right:
        return -1
    return 0


def lowest(numbers):
    """The list of some integers, each divided by their greatest common divisor."""
    common = 0
    for number in numbers:
        common = gcd(common, number)
    if common == 0:
        return list(numbers)
    return [number // common for number in numbers]


def ratio_text(one):
    """The text of a ratio, such as 5/6 or -2."""
    top, bottom = one
    if bottom == 1:
        return decimal(top)
    return decimal(top) + "/" + decimal(bottom)


def read_ratio(text):
    """The ratio that has a text."""
    if not isinstance(text, str) or len(text) > LONGEST_TEXT:
        raise BadText()
    top, slash, rest = text.partition("/")
    bottom = rest if slash else "1"
    if not is_digits(top.removeprefix("-")) or not is_digits(bottom) or int(bottom) == 0:
        raise BadText()
    found = ratio(int(top), int(bottom))
    # Each ratio has just one text, so any other spelling of it shows here.
    if ratio_text(found) != text:
        raise BadText()
    return found


def decimal(number):
    """An integer in decimal notation."""
    # In chunks, because str(..) refuses integers of more than 4300 digits,
    # and ratios that the package returned may grow beyond that.
    rest = abs(number)
    chunks = []
    while rest >= CHUNK:
        rest, low = divmod(rest, CHUNK)
        chunks.append(str(low).zfill(CHUNK_DIGITS))
    sign = "-" if number < 0 else ""
    return sign + str(rest) + "".join(chunks[::-1])


def is_digits(word):
    """Whether a string consists of one or more of the digits from 0 to 9."""
    return word.isascii() and word.isdigit()

"""Exact ratios, tuples (n, d) in lowest terms with d from 1 on, and their texts."""

from math import gcd, lcm

from ellwarden.checks import is_integer, is_tuple_of
from ellwarden.errors import BadRatio, Nought

DIGITS = "0123456789"
LONGEST = 400


def ratio(n, d=1):
    """The ratio n / d of two integers."""
    if d == 0:
        raise Nought(n)
    common = gcd(n, d)
    if d < 0:
        common = -common
    return (n // common, d // common)


def is_ratio(thing):
    """Whether it is a ratio."""
    if not is_tuple_of(thing, 2):
        return False
    n, d = thing
    return is_integer(n) and is_integer(d) and d >= 1 and gcd(n, d) == 1


def plus(a, b):
    """The sum of two ratios."""
    return ratio(a[0] * b[1] + b[0] * a[1], a[1] * b[1])


def minus(a, b):
    """The ratio a less b."""
    return ratio(a[0] * b[1] - b[0] * a[1], a[1] * b[1])


def times(a, b):
    """The product of two ratios."""
    return ratio(a[0] * b[0], a[1] * b[1])


def over(a, b):
    """The ratio a divided by b."""
    if b[0] == 0:
        raise Nought(a)
    return ratio(a[0] * b[1], a[1] * b[0])


def compare(a, b):
    """-1, 0 or 1 as a is below, equal to, above b."""
    left = a[0] * b[1]
    right = b[0] * a[1]
    if left == right:
        return 0
    return -1 if left < right else 1


def power(a, exponent):
    """The ratio a to the power of an integer."""
    found = (1, 1)
    for _ in range(abs(exponent)):
        found = times(found, a)
    return over((1, 1), found) if exponent < 0 else found


def write_ratio(a):
    """The text of a ratio."""
    n, d = a
    return str(n) if d == 1 else f"{n}/{d}"


def read_ratio(text):
    """The ratio of a text; BadRatio for whatever write_ratio does not write."""
    if not isinstance(text, str):
        raise BadRatio(text)
    above, slash, below = text.partition("/")
    if not is_whole(above, LONGEST) or (slash != "" and not _is_divisor(below)):
        raise BadRatio(text)
    told = (int(above), int(below) if slash != "" else 1)
    if not is_ratio(told):
        raise BadRatio(text)
    return told


def is_whole(text, longest):
    """Whether it is an integer as it is written, of at most so many digits."""
    if text == "0":
        return True
    return _is_digits(text.removeprefix("-"), longest)


def _is_divisor(text):
    """Whether it is an integer from 2 on as it is written; a divisor 1 is not written."""
    return _is_digits(text, LONGEST) and text != "1"


def _is_digits(text, longest):
    """Whether it has 1 to so many digits, the first one not 0."""
    if not 1 <= len(text) <= longest or text[0] == "0":
        return False
    return all([sign in DIGITS for sign in text])


def common_below(numbers):
    """The least integer from 1 on by which all these ratios are whole when they are multiplied."""
    many = 1
    for _, d in numbers:
        many = lcm(many, d)
    return many


def times_whole(a, many):
    """The integer that the ratio a is when it is multiplied by many."""
    return a[0] * (many // a[1])

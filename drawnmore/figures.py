"""Integers, fractions, decimal digits of any length, and names."""

from math import gcd, lcm

from drawnmore.errors import InvalidNumber

# Python refuses to read or write integers of some thousand digits at once
# (a limit that can be set to 640 digits), and counts may be longer: they are
# read and written in pieces of _WIDTH digits.
_WIDTH = 60
_STEP = 10 ** 60

_LETTERS = "abcdefghijklmnopqrstuvwxyz"
_DIGITS = "0123456789"


def is_whole(value):
    """Whether this is an integer; True and False are none."""
    return isinstance(value, int) and not isinstance(value, bool)


def check_number(given, least, most):
    """Raise InvalidNumber for all but integers within these bounds."""
    if not is_whole(given) or given < least or given > most:
        raise InvalidNumber(given)


def is_fraction(value):
    """Whether this is a pair (top, bottom) in lowest terms."""
    if not isinstance(value, tuple) or len(value) != 2:
        return False
    top, bottom = value
    return is_whole(top) and is_whole(bottom) and bottom > 0 and gcd(top, bottom) == 1


def is_chance(value):
    """Whether this is a fraction from 0 to 1."""
    return is_fraction(value) and 0 <= value[0] <= value[1]


def lowest(top, bottom):
    """The fraction top / bottom, for a bottom above 0."""
    common = gcd(top, bottom)
    return top // common, bottom // common


def add_up_to_one(shares):
    """Whether the sum of these fractions is 1."""
    bottom = 1
    for share in shares:
        bottom = lcm(bottom, share[1])
    return sum([top * (bottom // under) for top, under in shares]) == bottom


def powers(base, most):
    """The powers of a number from the one by 0 to the one by `most`."""
    found = [1]
    for _ in range(most):
        found.append(found[-1] * base)
    return found


def is_decimal(word):
    """Whether this string tells an integer from 0 on, without a needless 0."""
    if not word.isascii() or not word.isdigit():
        return False
    return word == "0" or not word.startswith("0")


def read_decimal(word):
    """The integer with these decimal digits."""
    pieces = (len(word) + _WIDTH - 1) // _WIDTH
    padded = word.zfill(pieces * _WIDTH)
    parts = [int(padded[at:at + _WIDTH]) for at in range(0, len(padded), _WIDTH)]
    step = _STEP
    # Neighbours are joined, so that a long integer takes few long products.
    while len(parts) > 1:
        if len(parts) % 2 == 1:
            parts = [0, *parts]
        parts = [parts[k] * step + parts[k + 1] for k in range(0, len(parts), 2)]
        step = step * step
    return parts[0]


def write_decimal(number):
    """The decimal digits of an integer from 0 on."""
    steps = []
    step = _STEP
    while step <= number:
        steps.append(step)
        step = step * step
    parts = [number]
    for size in steps[::-1]:
        parts = [piece for part in parts for piece in divmod(part, size)]
    digits = "".join([str(part).zfill(_WIDTH) for part in parts]).lstrip("0")
    return digits if digits else "0"


def is_name(value):
    """Whether this is a letter, and behind it up to seven letters and digits."""
    if not isinstance(value, str) or len(value) < 1 or len(value) > 8:
        return False
    return value[0] in _LETTERS and all([sign in _LETTERS or sign in _DIGITS for sign in value])

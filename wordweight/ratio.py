"""Rational numbers in lowest terms, and their written form."""
from math import gcd

from wordweight.errors import NoText, ZeroDivisor

# Python turns only integers of a few thousand digits into text and back, so digits go in blocks of this length.
_LENGTH = 60
_BLOCK = 10 ** 60


def digits(n):
    """Returns the decimal digits of an integer from 0 on, of any size."""
    bases = [_BLOCK]
    while bases[-1] <= n:
        bases.append(bases[-1] * bases[-1])
    parts = [n]
    for base in reversed(bases[:-1]):
        parts = [piece for part in parts for piece in divmod(part, base)]
    return "".join([str(part).zfill(_LENGTH) for part in parts]).lstrip("0") or "0"


def is_digits(text):
    """Returns True if a string consists of one or more of the digits 0 to 9."""
    return text != "" and text.strip("0123456789") == ""


def from_digits(text):
    """Returns the integer with the given decimal digits, of any number; zeros may stand in front."""
    first = len(text) % _LENGTH
    parts = [int(text[at:at + _LENGTH]) for at in range(first, len(text), _LENGTH)]
    if first > 0:
        parts = [int(text[:first]), *parts]
    base = _BLOCK
    while len(parts) > 1:
        if len(parts) % 2 == 1:
            parts = [0, *parts]
        parts = [parts[at] * base + parts[at + 1] for at in range(0, len(parts), 2)]
        base = base * base
    return parts[0]


def is_integer(value):
    """Returns True if the value is an integer and not True or False."""
    return isinstance(value, int) and not isinstance(value, bool)


class Ratio:
    """A rational number n / d in lowest terms, with d above 0."""

    def __init__(self, n, d=1):
        if d == 0:
            raise ZeroDivisor("the denominator is zero")
        common = gcd(n, d)
        if d < 0:
            common = -common
        self.n = n // common
        self.d = d // common

    def __add__(self, other):
        return Ratio(self.n * other.d + other.n * self.d, self.d * other.d)

    def __sub__(self, other):
        return Ratio(self.n * other.d - other.n * self.d, self.d * other.d)

    def __mul__(self, other):
        return Ratio(self.n * other.n, self.d * other.d)

    def __neg__(self):
        return Ratio(-self.n, self.d)

    def __eq__(self, other):
        return isinstance(other, Ratio) and self.n == other.n and self.d == other.d

    def __str__(self):
        sign = "-" if self.n < 0 else ""
        if self.d == 1:
            return f"{sign}{digits(abs(self.n))}"
        return f"{sign}{digits(abs(self.n))}/{digits(self.d)}"

    def inverse(self):
        """Returns 1 divided by the number."""
        return Ratio(self.d, self.n)

    def over(self, b):
        """Returns the number divided by another one."""
        return Ratio(self.n * b.d, self.d * b.n)

    def power(self, k):
        """Returns the power with the integer exponent k; the power 0 is 1."""
        base = self.inverse() if k < 0 else self
        return Ratio(_power(base.n, abs(k)), _power(base.d, abs(k)))

    def compare(self, b):
        """Returns -1, 0 or 1 if the number is less than, equal to or greater than b."""
        return (self - b).sign()

    def sign(self):
        """Returns -1, 0 or 1 for a number below, equal to or above zero."""
        if self.n == 0:
            return 0
        return -1 if self.n < 0 else 1

    def floor(self):
        """Returns the greatest integer that is not greater than the number."""
        return self.n // self.d

    @property
    def whole(self):
        """True if the number is an integer."""
        return self.d == 1

    def is_zero(self):
        """Returns True for zero."""
        return self.n == 0


def _power(base, k):
    """Returns the power of an integer with an exponent k from 0 on."""
    found = 1
    for bit in f"{k:b}":
        found = found * found
        if bit == "1":
            found = found * base
    return found


def zero():
    """Returns the number 0."""
    return Ratio(0)


def one():
    """Returns the number 1."""
    return Ratio(1)


def total(numbers):
    """Returns the sum of a list or tuple of numbers, 0 if it is empty."""
    found = zero()
    for number in numbers:
        found = found + number
    return found


def read_ratio(text):
    """Returns the number whose written form is the text; raises NoText(0) if there is none."""
    if not isinstance(text, str):
        raise NoText(0)
    upper, slash, lower = text.removeprefix("-").partition("/")
    if slash == "":
        lower = "1"
    if not is_digits(upper) or not is_digits(lower) or lower.strip("0") == "":
        raise NoText(0)
    found = Ratio(from_digits(upper), from_digits(lower))
    if text.startswith("-"):
        found = -found
    # Leading zeros, -0, /1 and common divisors are known by this: writing the number does not give them back.
    if str(found) != text:
        raise NoText(0)
    return found

"""Polynomials over the ratios."""
from wordweight.errors import ZeroDivisor
from wordweight.ratio import Ratio, zero


class Poly:
    """A polynomial: its row has the coefficients, the constant first, the last one not zero."""

    def __init__(self, row):
        items = [item if isinstance(item, Ratio) else Ratio(item) for item in row]
        while items and items[-1].is_zero():
            items.pop()
        self.row = tuple(items)

    def __iter__(self):
        return iter(self.row)

    def __eq__(self, other):
        return isinstance(other, Poly) and self.row == other.row

    def __add__(self, other):
        many = max(len(self.row), len(other.row))
        return Poly([self.coefficient(k) + other.coefficient(k) for k in range(many)])

    def __sub__(self, other):
        many = max(len(self.row), len(other.row))
        return Poly([self.coefficient(k) - other.coefficient(k) for k in range(many)])

    def __mul__(self, other):
        found = [zero() for _ in range(len(self.row) + len(other.row))]
        for i, x in enumerate(self.row):
            for j, y in enumerate(other.row):
                found[i + j] = found[i + j] + x * y
        return Poly(found)

    def __str__(self):
        if not self.row:
            return "0"
        return " + ".join([_term(item, k) for k, item in enumerate(self.row) if not item.is_zero()])

    def degree(self):
        """Returns the degree, -1 for zero."""
        return len(self.row) - 1

    def is_zero(self):
        """Returns True for zero."""
        return not self.row

    def coefficient(self, k):
        """Returns the coefficient of x^k, zero for every k at which there is none."""
        return self.row[k] if 0 <= k < len(self.row) else zero()

    def value(self, a):
        """Returns the value at a number."""
        found = zero()
        for item in reversed(self.row):
            found = found * a + item
        return found

    def divide(self, q):
        """Returns the pair of the quotient and the remainder; raises ZeroDivisor if q is zero."""
        if q.is_zero():
            raise ZeroDivisor("the divisor is zero")
        rest = list(self.row)
        factors = []
        while len(rest) >= len(q.row):
            factor = rest[-1].over(q.row[-1])
            first = len(rest) - len(q.row)
            # The last item becomes zero, so it is left out.
            rest = rest[:first] + [x - factor * y for x, y in zip(rest[first:-1], q.row)]
            factors.append(factor)
        return (Poly(factors[::-1]), Poly(rest))


def _term(item, k):
    """Returns the text of a coefficient and its power of x."""
    if k == 0:
        return str(item)
    return f"{item}*x" if k == 1 else f"{item}*x^{k}"


def _monic(p):
    """Returns the multiple of a polynomial whose last coefficient is 1, or zero for zero."""
    if p.is_zero():
        return p
    factor = p.row[-1].inverse()
    return Poly([factor * item for item in p.row])


def common_divisor(p, q):
    """Returns the greatest common divisor, monic; zero if both are zero."""
    f, g = _monic(p), _monic(q)
    while not g.is_zero():
        _, rest = f.divide(g)
        f, g = g, _monic(rest)
    return f

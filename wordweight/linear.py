"""Vectors (tuples of Ratio), matrices, and linear equations with papers of their answers."""
from wordweight.ratio import Ratio, one, total, zero


def dot(a, b):
    """Returns the product of two vectors of the same length."""
    # Most items of machines are zero, and to look at them is cheaper than to count with them.
    return total([x * y for x, y in zip(a, b) if x.n != 0 and y.n != 0])


def combine(rows, width, weights):
    """Returns the sum of the rows multiplied by the weights, a vector of the given width."""
    found = [zero()] * width
    for row, weight in zip(rows, weights):
        if not weight.is_zero():
            found = [x if y.n == 0 else x + weight * y for x, y in zip(found, row)]
    return tuple(found)


class Matrix:
    """Rows of one length, the width; there may be no rows, and the width may be 0."""

    def __init__(self, rows, width):
        self.rows = tuple([tuple(row) for row in rows])
        self.width = width

    def __len__(self):
        return len(self.rows)

    def __iter__(self):
        return iter(self.rows)

    def __eq__(self, other):
        return isinstance(other, Matrix) and self.width == other.width and self.rows == other.rows

    def __add__(self, other):
        return Matrix([[x + y for x, y in zip(a, b)] for a, b in zip(self.rows, other.rows)], self.width)

    def __sub__(self, other):
        return Matrix([[x - y for x, y in zip(a, b)] for a, b in zip(self.rows, other.rows)], self.width)

    def __mul__(self, other):
        return Matrix([other.before(row) for row in self.rows], other.width)

    def transposed(self):
        """Returns the matrix of the columns."""
        return Matrix([[row[at] for row in self.rows] for at in range(self.width)], len(self.rows))

    def times(self, x):
        """Returns the vector of the products of the rows with x."""
        return tuple([dot(row, x) for row in self.rows])

    def scaled(self, r):
        """Returns the matrix with all items multiplied by r."""
        return Matrix([[item * r for item in row] for row in self.rows], self.width)

    def before(self, row):
        """Returns the product of a row and the matrix."""
        return combine(self.rows, self.width, row)

    def reduced(self):
        """Returns the reduced matrix whose rows span the same space, and the tuple of its pivots."""
        chosen, pivots, _ = _eliminate(self.rows, self.width)
        return (Matrix(chosen, self.width), tuple(pivots))

    def rank(self):
        """Returns the number of rows of the reduced matrix."""
        _, pivots = self.reduced()
        return len(pivots)

    def kernel(self):
        """Returns the vectors, one for each free column, whose products with all rows are 0."""
        reduced, pivots = self.reduced()
        found = []
        for free in range(self.width):
            if free not in pivots:
                places = [*pivots, free]
                items = [-row[free] for row in reduced.rows] + [one()]
                found.append(_placed(items, places, self.width))
        return tuple(found)

    def solve(self, right):
        """Returns ("solution", x) with zeros in all free columns, or ("none", y)."""
        rows = [[*row, item] for row, item in zip(self.rows, right)]
        chosen, pivots, rest = _eliminate(rows, self.width)
        if all([row[-1].is_zero() for row in rest]):
            return ("solution", _placed([row[-1] for row in chosen], pivots, self.width))
        # The multipliers y solve a system of their own: one row for each column, and one for the right side.
        columns = Matrix(rows, self.width + 1).transposed()
        goal = [zero()] * self.width + [one()]
        _, y = columns.solve(goal)
        return ("none", y)

    def shows_none(self, right, y):
        """Returns True if y is a vector that shows that the system has no solution."""
        if not is_vector(y, len(self.rows)):
            return False
        return all([item.is_zero() for item in self.before(y)]) and dot(y, right) == one()

    def duals(self):
        """Returns the duals of the rows, or None if the rows are dependent."""
        units = identity(len(self.rows)).rows
        chosen, pivots, rest = _eliminate([row + unit for row, unit in zip(self.rows, units)], self.width)
        if rest:
            return None
        columns = [[row[self.width + at] for row in chosen] for at in range(len(self.rows))]
        return tuple([_placed(column, pivots, self.width) for column in columns])

    def dependence(self):
        """Returns weights, not all zero, that combine the rows to zero, or None if there are none."""
        found = self.transposed().kernel()
        return found[0] if found else None


def _eliminate(rows, width):
    """Eliminates in the first columns, as many as the width tells; the rows may be longer.

    Returns the chosen rows, their pivots, and the rows that were not chosen.
    """
    rest = list(rows)
    chosen = []
    pivots = []
    for column in range(width):
        at = _first_filled(rest, column)
        if at >= 0:
            factor = rest[at][column].inverse()
            lead = [factor * item for item in rest[at]]
            rest = [_cleared(row, lead, column) for row in rest[:at] + rest[at + 1:]]
            chosen = [_cleared(row, lead, column) for row in chosen] + [lead]
            pivots.append(column)
    return (chosen, pivots, rest)


def _first_filled(rows, column):
    """Returns the index of the first row with an item other than zero in the column, or -1."""
    for at, row in enumerate(rows):
        if not row[column].is_zero():
            return at
    return -1


def _cleared(row, lead, column):
    """Returns the row less the multiple of the lead that leaves zero in the column; the lead has 1 there."""
    factor = row[column]
    if factor.is_zero():
        return row
    return [x if y.n == 0 else x - factor * y for x, y in zip(row, lead)]


def _placed(items, places, width):
    """Returns the vector of the given width with the items at their places, and zeros elsewhere."""
    found = [zero()] * width
    for place, item in zip(places, items):
        found[place] = item
    return tuple(found)


def shows_independent(rows, width, duals):
    """Returns True if the duals are a tuple of vectors that shows that the rows are independent."""
    if not isinstance(duals, tuple) or not all([is_vector(dual, width) for dual in duals]):
        return False
    # The unit matrix has as many rows as there must be duals.
    return Matrix(duals, width) * Matrix(rows, width).transposed() == identity(len(rows))


def identity(n):
    """Returns the unit matrix of size n."""
    return Matrix([_placed([one()], [at], n) for at in range(n)], n)


def nothing(height, width):
    """Returns the matrix of zeros."""
    return Matrix([[zero()] * width] * height, width)


def is_vector(value, length):
    """Returns True if the value is a tuple of that many Ratio."""
    return isinstance(value, tuple) and len(value) == length and all([isinstance(item, Ratio) for item in value])

"""Rows that are no combinations of the rows before them, and machines on such rows."""
from math import gcd, lcm

from wordweight.linear import Matrix
from wordweight.machine import Machine


class Span:
    """The combinations of the vectors that have been taken up.

    A multiple of a vector spans what the vector spans, so integers without a common divisor are enough. Each lead
    has zeros at the places of the leads before it.
    """

    def __init__(self):
        self.leads = []

    def grow(self, vector):
        """Takes up a vector; returns False, and stays as it is, if it is a combination of those before."""
        rest = _integers(vector)
        for place, lead in self.leads:
            if rest[place] != 0:
                rest = _cleared(rest, lead, place)
        filled = [at for at, item in enumerate(rest) if item != 0]
        if not filled:
            return False
        self.leads.append((filled[0], rest))
        return True


def _integers(vector):
    """Returns a multiple of a vector that has integers only."""
    common = 1
    for item in vector:
        common = lcm(common, item.d)
    return _shortened([item.n * (common // item.d) for item in vector])


def _cleared(row, lead, place):
    """Returns a combination of a multiple of the row and the lead that has zero at the place."""
    common = gcd(row[place], lead[place])
    p, q = lead[place] // common, row[place] // common
    return _shortened([p * x - q * y for x, y in zip(row, lead)])


def _shortened(row):
    """Returns the integers of the row divided by their greatest common divisor."""
    common = 0
    for item in row:
        common = gcd(common, item)
        if common == 1:
            return row
    return [item // common for item in row] if common > 1 else row


def step_rows(machine, seen):
    """Yields the pairs (word, row after it) for the words, in order, whose row is no combination of those before.

    Not the rows themselves are looked at but their products with the matrix seen. Where such a product is zero it
    has to stay zero when the row is multiplied by matrices of the machine.
    """
    span = Span()
    level = [("", machine.row)]
    while level:
        fresh = []
        for word, row in level:
            if span.grow(seen.before(row)):
                fresh.append((word, row))
                yield (word, row)
        moves = list(zip(machine.alphabet, machine.matrices))
        level = [(word + a, matrix.before(row)) for word, row in fresh for a, matrix in moves]


def carried(machine, rows, seen):
    """Returns the machine of the same series whose states stand for the given rows, those of step_rows.

    All rows after words are, as far as the matrix seen tells, combinations of them: the row of the new machine and
    the rows of its matrices are the multiples.
    """
    basis = Matrix(rows, machine.size())
    back = Matrix((basis * seen).duals(), seen.width).transposed()
    matrices = [basis * matrix * seen * back for matrix in machine.matrices]
    row = back.before(seen.before(machine.row))
    return Machine(machine.alphabet, row, matrices, basis.times(machine.column))

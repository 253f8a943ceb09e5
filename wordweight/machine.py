"""Weighted machines: a row, a matrix for each letter, a column, and the weights that they give to words."""
from wordweight.errors import Malformed
from wordweight.linear import Matrix, dot, identity, nothing
from wordweight.ratio import one, zero


class Machine:
    """A machine of a size from 0 on over an alphabet, with the matrices in the order of the letters."""

    def __init__(self, alphabet, row, matrices, column):
        self.alphabet = alphabet
        self.row = tuple(row)
        self.matrices = tuple(matrices)
        self.column = tuple(column)
        if len(self.row) != len(self.column):
            raise Malformed("the row and the column of a machine have one length")
        if len(self.matrices) != len(alphabet):
            raise Malformed("a machine has one matrix for each letter")
        if not all([_is_square(matrix, len(self.row)) for matrix in self.matrices]):
            raise Malformed("the matrices of a machine are squares of its size")

    def size(self):
        """Returns the size, the length of the row and of the column."""
        return len(self.row)

    def __eq__(self, other):
        return (isinstance(other, Machine) and self.alphabet == other.alphabet and self.row == other.row
                and self.matrices == other.matrices and self.column == other.column)

    def weight(self, word):
        """Returns the weight of a word; raises Refused("letter") for a letter that is not in the alphabet."""
        return dot(self.row_after(word), self.column)

    def __call__(self, word):
        return self.weight(word)

    def row_after(self, word):
        """Returns the row multiplied by the matrices of the letters in order."""
        found = self.row
        for a in word:
            found = self._matrix(a).before(found)
        return found

    def column_before(self, word):
        """Returns the column multiplied from the left by the matrices of the letters, the last letter first."""
        found = self.column
        for a in reversed(word):
            found = self._matrix(a).times(found)
        return found

    def _matrix(self, a):
        return self.matrices[self.alphabet.index(a)]

    def __add__(self, other):
        if self.alphabet != other.alphabet:
            raise Malformed("machines that are added have one alphabet")
        matrices = [_diagonal(m, n) for m, n in zip(self.matrices, other.matrices)]
        return Machine(self.alphabet, self.row + other.row, matrices, self.column + other.column)

    def __sub__(self, other):
        return self + -other

    def __neg__(self):
        return self.scaled(-one())

    def scaled(self, q):
        """Returns the machine whose weights are multiplied by q."""
        return Machine(self.alphabet, [item * q for item in self.row], self.matrices, self.column)

    def transposed(self):
        """Returns the machine that gives each word the weight of the reversed word."""
        return Machine(self.alphabet, self.column, [matrix.transposed() for matrix in self.matrices], self.row)

    def changed(self, p, q):
        """Returns the machine after the change of basis by p with the inverse q; the weights stay."""
        n = self.size()
        if not _is_square(p, n) or not _is_square(q, n):
            raise Malformed("a change of basis has squares of the size of the machine")
        if p * q != identity(n):
            raise Malformed("the second matrix of a change of basis is the inverse of the first one")
        matrices = [p * matrix * q for matrix in self.matrices]
        return Machine(self.alphabet, q.before(self.row), matrices, p.times(self.column))

    def weighted_words(self, most):
        """Yields the pairs (word, weight) for the words of length at most most, in their order."""
        rows = [self.row]
        last = ""
        for word in self.alphabet.words(most):
            # A word shares nearly all of its beginning with the one before it: the rows after that are known.
            same = _shared(last, word)
            rows = rows[:same + 1]
            for a in word[same:]:
                rows.append(self._matrix(a).before(rows[-1]))
            last = word
            yield (word, dot(rows[-1], self.column))


def _is_square(matrix, n):
    """Returns True if the matrix is a square of the size n."""
    return len(matrix) == n and matrix.width == n


def _diagonal(m, n):
    """Returns the matrix with both matrices along the diagonal and zeros elsewhere."""
    above = [row + (zero(),) * n.width for row in m.rows]
    below = [(zero(),) * m.width + row for row in n.rows]
    return Matrix(above + below, m.width + n.width)


def _shared(u, v):
    """Returns the length of the longest common beginning of two words."""
    found = 0
    for x, y in zip(u, v):
        if x != y:
            return found
        found = found + 1
    return found


def null(alphabet):
    """Returns the machine of size 0, which gives every word the weight 0."""
    return Machine(alphabet, (), [nothing(0, 0)] * len(alphabet), ())


def constant(alphabet, q):
    """Returns the machine of size 1 that gives the empty word the weight q and every other word 0."""
    return Machine(alphabet, (q,), [nothing(1, 1)] * len(alphabet), (one(),))


def letter(alphabet, a):
    """Returns the machine of size 2 that gives the word a the weight 1 and every other word 0."""
    at = alphabet.index(a)
    matrices = [nothing(2, 2)] * len(alphabet)
    matrices[at] = Matrix([[zero(), one()], [zero(), zero()]], 2)
    return Machine(alphabet, (one(), zero()), matrices, (zero(), one()))

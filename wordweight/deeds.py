"""Operations on machines: products, the star, quotients and substitution."""
from wordweight.errors import Malformed, Refused
from wordweight.linear import Matrix, dot, identity, nothing
from wordweight.machine import Machine, constant
from wordweight.ratio import one, zero


def product(f, g):
    """Returns the Cauchy product: the sum over the cuts of a word of the products of the weights of both parts."""
    _check_alphabets(f, g)
    matrices = [_followed(a, a.times(f.column), g.row, b) for a, b in zip(f.matrices, g.matrices)]
    row = f.row + _multiplied(g.row, dot(f.row, f.column))
    return Machine(f.alphabet, row, matrices, _zeros(f.size()) + g.column)


def _followed(a, ends, begin, b):
    """Returns the matrix with a and b along the diagonal; above b, each of the ends goes over into the row begin."""
    above = [row + _multiplied(begin, end) for row, end in zip(a.rows, ends)]
    below = [_zeros(a.width) + row for row in b.rows]
    return Matrix(above + below, a.width + b.width)


def power(f, k):
    """Returns the Cauchy product of k machines f, the machine of the number 1 for 0."""
    if k < 1:
        return constant(f.alphabet, one())
    found = f
    for _ in range(k - 1):
        found = product(found, f)
    return found


def star(f):
    """Returns the machine of all Cauchy powers together; raises Refused("star") if f is not proper."""
    if not is_proper(f):
        raise Refused("star")
    matrices = [_restarted(f.row, a, f.column) for a in f.matrices]
    return Machine(f.alphabet, (one(),) + _zeros(f.size()), matrices, (one(),) + _zeros(f.size()))


def _restarted(begin, a, end):
    """Returns the matrix with one more state in front, in which a word of the star has ended and the next begins."""
    ends = a.times(end)
    first = (dot(begin, ends),) + a.before(begin)
    return Matrix([first] + [(x,) + row for x, row in zip(ends, a.rows)], a.width + 1)


def is_proper(f):
    """Returns True if the weight of the empty word is 0."""
    return f.weight("").is_zero()


def hadamard(f, g):
    """Returns the machine that gives each word the product of both weights."""
    _check_alphabets(f, g)
    matrices = [_crossed(a, b) for a, b in zip(f.matrices, g.matrices)]
    return Machine(f.alphabet, _paired(f.row, g.row), matrices, _paired(f.column, g.column))


def shuffle(f, g):
    """Returns the shuffle product: the sum over all sets of positions, whose letters go to f and the others to g."""
    _check_alphabets(f, g)
    first, second = identity(f.size()), identity(g.size())
    matrices = [_crossed(a, second) + _crossed(first, b) for a, b in zip(f.matrices, g.matrices)]
    return Machine(f.alphabet, _paired(f.row, g.row), matrices, _paired(f.column, g.column))


def _paired(x, y):
    """Returns the products of each item of x with each item of y."""
    return tuple([p * q for p in x for q in y])


def _crossed(a, b):
    """Returns the Kronecker product of two matrices."""
    return Matrix([_paired(x, y) for x in a.rows for y in b.rows], a.width * b.width)


def left_quotient(f, word):
    """Returns the machine that gives w the weight of the word and w together."""
    return Machine(f.alphabet, f.row_after(word), f.matrices, f.column)


def right_quotient(f, word):
    """Returns the machine that gives w the weight of w and the word together."""
    return Machine(f.alphabet, f.row, f.matrices, f.column_before(word))


def word_machine(alphabet, word):
    """Returns the machine that gives the word the weight 1 and every other word 0."""
    places = [alphabet.index(a) for a in word]
    n = len(places) + 1
    units = identity(n).rows
    matrices = []
    for letter_at in range(len(alphabet)):
        rows = [units[k + 1] if place == letter_at else _zeros(n) for k, place in enumerate(places)]
        matrices.append(Matrix(rows + [_zeros(n)], n))
    return Machine(alphabet, units[0], matrices, units[-1])


def substitute(f, table):
    """Returns the machine in which each letter of f is replaced by the words of its machine in the table."""
    parts = _replacements(f, table)
    # The machines of all letters stand side by side in one, and each state of f has this one for itself.
    inner = parts[0]
    for part in parts[1:]:
        inner = inner + part
    matrices = [_replaced(f, parts, inner, b) for b in inner.alphabet]
    spare = _zeros(f.size() * inner.size())
    return Machine(inner.alphabet, f.row + spare, matrices, f.column + spare)


def _replacements(f, table):
    """Returns the machines that replace the letters of f, in order; raises what substitute raises."""
    if not all([a in table for a in f.alphabet]):
        raise Malformed("each letter needs a machine that replaces it")
    parts = [table[a] for a in f.alphabet]
    for part in parts:
        _check_alphabets(parts[0], part)
    if not all([is_proper(part) for part in parts]):
        raise Refused("proper")
    return parts


def _replaced(f, parts, inner, b):
    """Returns the matrix of the letter b after the substitution.

    The states of f come first, then those of the inner machine, once for each state of f in which its word began.
    """
    n, m = f.size(), inner.size()
    matrix = inner.matrices[inner.alphabet.index(b)]
    begun, ends = matrix.before(inner.row), matrix.times(inner.column)
    whole = nothing(n, n)
    for a, part in zip(f.matrices, parts):
        whole = whole + a.scaled(part.weight(b))
    moves = [a for a, part in zip(f.matrices, parts) for _ in range(part.size())]
    rows = [row + _at_block(begun, i, n) for i, row in enumerate(whole.rows)]
    for i in range(n):
        for a, end, row in zip(moves, ends, matrix.rows):
            rows.append(_multiplied(a.rows[i], end) + _at_block(row, i, n))
    return Matrix(rows, n + n * m)


def _at_block(row, at, many):
    """Returns as many blocks of the length of the row as are told, zeros but for the row at one of them."""
    return _zeros(at * len(row)) + row + _zeros((many - 1 - at) * len(row))


def _zeros(length):
    return (zero(),) * length


def _multiplied(row, q):
    return tuple([q * item for item in row])


def _check_alphabets(f, g):
    if f.alphabet != g.alphabet:
        raise Malformed("both machines need the same alphabet")

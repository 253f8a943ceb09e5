"""Values and small builders that several tests use."""
from itertools import product

from wordweight.errors import Fault, Malformed, NoText, Refused, ZeroDivisor
from wordweight.linear import Matrix
from wordweight.ratio import Ratio
from wordweight.words import Alphabet

# Values of every kind that the document counts as "every value".
VALUES = (
    0, 1, -1, 2, 10 ** 40, True, False, None,
    "", "a", "b", "ab", "ba", "aa", "A", "1", "0", "-1", "1/2", " ", "a b", "abcde", "\n", "\u00e4", "\u0661",
    (), (0,), (1,), ("a",), ("a", "b"), ((),), (None,), (True, False), ((1, 2), (3,)),
    [], [0], ["a"], [[]], [()], ["a", "b"],
    Ratio(0), Ratio(1), Ratio(-1, 2), (Ratio(1),), [Ratio(1)], (Ratio(1), Ratio(0)), ((Ratio(1),),), [[Ratio(1)]],
    Matrix((), 0), Matrix((), 2), Matrix(((Ratio(1),),), 1), (Matrix((), 0),),
    Alphabet("a"), Alphabet("ab"), Alphabet("ba"), (Alphabet("ab"),),
    Fault("x"), Malformed("x"), ZeroDivisor("x"), Refused("letter"), NoText(0),
)


def vector(*numbers):
    """A vector of integers and strings such as -1/2."""
    return tuple(ratio(number) for number in numbers)


def ratio(number):
    """A Ratio from an integer or a string such as -1/2."""
    if isinstance(number, str):
        n, _, d = number.partition("/")
        return Ratio(int(n), int(d or "1"))
    return Ratio(number)


def matrix(*rows, width=None):
    """A matrix from rows of integers and strings; the width is told if there are no rows."""
    return Matrix([vector(*row) for row in rows], len(rows[0]) if width is None else width)


def all_matrices(height, width, items):
    """All matrices of a size over the items."""
    for row in product(items, repeat=height * width):
        yield matrix(*[row[at * width:(at + 1) * width] for at in range(height)], width=width)

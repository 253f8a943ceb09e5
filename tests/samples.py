"""Values and small builders that several tests use."""
from itertools import product

from wordweight.errors import Fault, Malformed, NoText, Refused, ZeroDivisor
from wordweight.expression import letter_of, number
from wordweight.linear import Matrix
from wordweight.machine import Machine, constant, letter, null
from wordweight.ratio import Ratio
from wordweight.words import Alphabet

# Values of every kind that the document counts as "every value".
VALUES = (
    0, 1, -1, 2, 10 ** 40, True, False, None,
    "", "a", "b", "ab", "ba", "aa", "A", "1", "0", "-1", "1/2", " ", "a b", "abcde", "\n", "\u00e4", "\u0661",
    (), (0,), (1,), ("a",), ("a", "b"), ((),), (None,), (True, False), ((1, 2), (3,)),
    [], [0], ["a"], [[]], [()], ["a", "b"],
    Ratio(0), Ratio(1), Ratio(-1, 2), (Ratio(1),), [Ratio(1)], (Ratio(1), Ratio(0)), ((Ratio(1),),), [[Ratio(1)]],
    Matrix((), 0), Matrix((), 2), Matrix(((Ratio(1),),), 1), (Matrix((), 0),),
    Alphabet("a"), Alphabet("ab"), Alphabet("ba"), (Alphabet("ab"),),
    null(Alphabet("a")), null(Alphabet("ab")), constant(Alphabet("ab"), Ratio(1)), letter(Alphabet("ab"), "a"),
    number(0), number(1), letter_of("a"), letter_of("a") + letter_of("b"), letter_of("a").star(), (letter_of("a"),),
    letter_of("a").left("ab"), ["number", (Ratio(1),)], ("letter", ("a",)),
    Fault("x"), Malformed("x"), ZeroDivisor("x"), Refused("letter"), NoText(0),
)


class Choices:
    """Choices that look arbitrary and are the same in every run."""

    def __init__(self, seed):
        self.state = seed

    def below(self, many):
        """A number from 0 on below another one."""
        self.state = (self.state * 6364136223846793005 + 1442695040888963407) % 2 ** 64
        return (self.state >> 33) % many

    def of(self, items):
        """One of the items."""
        return items[self.below(len(items))]

    def machine(self, letters, size):
        """A machine over the letters with small numbers, many of them zero."""
        def numbers(many):
            return [ratio(self.of((0, 0, 1, -1, 2, "1/2", "-3/2"))) for _ in range(many)]
        matrices = [Matrix([numbers(size) for _ in range(size)], size) for _ in letters]
        return Machine(Alphabet(letters), numbers(size), matrices, numbers(size))


def vector(*numbers):
    """A vector of integers and strings such as -1/2."""
    return tuple(ratio(number) for number in numbers)


def ratio(number):
    """A Ratio from an integer or a string such as -1/2."""
    if isinstance(number, str):
        n, _, d = number.partition("/")
        return Ratio(int(n), int(d or "1"))
    return Ratio(number)


def matrix(*rows, width=None):
    """A matrix from rows of integers and strings; the width is told if there are no rows."""
    return Matrix([vector(*row) for row in rows], len(rows[0]) if width is None else width)


def all_matrices(height, width, items):
    """All matrices of a size over the items."""
    for row in product(items, repeat=height * width):
        yield matrix(*[row[at * width:(at + 1) * width] for at in range(height)], width=width)


def any_expression(choices, depth):
    """Any expression of at most a depth."""
    kind = choices.below(10 if depth > 1 else 2)
    if kind == 0:
        return number(Ratio(choices.below(7) - 3, 1 + choices.below(3)))
    if kind == 1:
        return letter_of(choices.of("abc"))
    e = any_expression(choices, depth - 1)
    if kind >= 6:
        word = "".join(choices.of("abc") for _ in range(1 + choices.below(3)))
        return (e.star(), e.reverse(), e.left(word), e.right(word))[kind - 6]
    f = any_expression(choices, depth - 1)
    return (e + f, e * f, e & f, e ^ f)[kind - 2]

"""Values and small builders that several tests use."""
from fractions import Fraction
from itertools import product

from wordweight.errors import Fault, Malformed, NoText, Refused, ZeroDivisor
from wordweight.expression import letter_of, number
from wordweight.linear import Matrix
from wordweight.machine import Machine, constant, letter, null
from wordweight.plain import Plain
from wordweight.poly import Poly
from wordweight.ratio import Ratio
from wordweight.replies import Reply
from wordweight.words import Alphabet

# Values of every kind that the document counts as "every value".
VALUES = (
    0, 1, -1, 2, 10 ** 40, True, False, None,
    "", "a", "b", "ab", "ba", "aa", "A", "1", "0", "-1", "1/2", " ", "a b", "abcde", "\n", "\u00e4", "\u0661",
    (), (0,), (1,), ("a",), ("a", "b"), ((),), (None,), (True, False), ((1, 2), (3,)),
    [], [0], ["a"], [[]], [()], ["a", "b"],
    Ratio(0), Ratio(1), Ratio(-1, 2), (Ratio(1),), [Ratio(1)], (Ratio(1), Ratio(0)), ((Ratio(1),),), [[Ratio(1)]],
    Matrix((), 0), Matrix((), 2), Matrix(((Ratio(1),),), 1), (Matrix((), 0),),
    Alphabet("a"), Alphabet("ab"), Alphabet("ba"), (Alphabet("ab"),),
    null(Alphabet("a")), null(Alphabet("ab")), constant(Alphabet("ab"), Ratio(1)), letter(Alphabet("ab"), "a"),
    number(0), number(1), letter_of("a"), letter_of("a") + letter_of("b"), letter_of("a").star(), (letter_of("a"),),
    letter_of("a").left("ab"), ["number", (Ratio(1),)], ("letter", ("a",)),
    Poly([]), Poly([0, 1]), (Poly([1]),), Plain(Alphabet("ab"), 0), Plain(Alphabet("ab"), 1, ends=(0,)),
    Plain(Alphabet("ab"), 2, ends=(1,), moves=((0, "a", 1), (1, "b", 1))),
    Reply("done"), Reply("number", "1", (Ratio(1),)), ("least a", Reply("done")), ["", Reply("done")], ("", "done", ()),
    Fault("x"), Malformed("x"), ZeroDivisor("x"), Refused("letter"), NoText(0),
)


class Choices:
    """Choices that look arbitrary and are the same in every run."""

    def __init__(self, seed):
        self.state = seed

    def below(self, many):
        """A number from 0 on below another one."""
        self.state = (self.state * 6364136223846793005 + 1442695040888963407) % 2 ** 64
        return (self.state >> 33) % many

    def of(self, items):
        """One of the items."""
        return items[self.below(len(items))]

    def machine(self, letters, size):
        """A machine over the letters with small numbers, many of them zero."""
        def numbers(many):
            return [ratio(self.of((0, 0, 1, -1, 2, "1/2", "-3/2"))) for _ in range(many)]
        matrices = [Matrix([numbers(size) for _ in range(size)], size) for _ in letters]
        return Machine(Alphabet(letters), numbers(size), matrices, numbers(size))


    def plain(self, letters, size):
        """A plain machine over the letters with few moves."""
        def some():
            return [i for i in range(size) if self.below(3) == 0]
        many = self.below(size * len(letters) * 2 + 1)
        moves = [(self.below(size), self.of(letters), self.below(size)) for _ in range(many)]
        return Plain(Alphabet(letters), size, starts=some() or [0], ends=some(), moves=moves)

    def determined(self, letters, size):
        """A determined plain machine over the letters."""
        moves = [(i, letter, self.below(size)) for i in range(size) for letter in letters]
        ends = [i for i in range(size) if self.below(2) == 0]
        return Plain(Alphabet(letters), size, starts=[self.below(size)], ends=ends, moves=moves)


def runs_of(a, word):
    """The list of the runs of a plain machine on a word, found by going on from each start in every way."""
    found = [(i,) for i in a.starts]
    for letter in word:
        found = [run + (j,) for run in found for i, x, j in a.moves if (i, x) == (run[-1], letter)]
    return [run for run in found if run[-1] in a.ends]


def vector(*numbers):
    """A vector of integers and strings such as -1/2."""
    return tuple(ratio(number) for number in numbers)


def ratio(number):
    """A Ratio from an integer or a string such as -1/2."""
    if isinstance(number, str):
        n, _, d = number.partition("/")
        return Ratio(int(n), int(d or "1"))
    return Ratio(number)


def matrix(*rows, width=None):
    """A matrix from rows of integers and strings; the width is told if there are no rows."""
    return Matrix([vector(*row) for row in rows], len(rows[0]) if width is None else width)


def all_matrices(height, width, items):
    """All matrices of a size over the items."""
    for row in product(items, repeat=height * width):
        yield matrix(*[row[at * width:(at + 1) * width] for at in range(height)], width=width)


def any_expression(choices, depth):
    """Any expression of at most a depth."""
    kind = choices.below(10 if depth > 1 else 2)
    if kind == 0:
        return number(Ratio(choices.below(7) - 3, 1 + choices.below(3)))
    if kind == 1:
        return letter_of(choices.of("abc"))
    e = any_expression(choices, depth - 1)
    if kind >= 6:
        word = "".join(choices.of("abc") for _ in range(1 + choices.below(3)))
        return (e.star(), e.reverse(), e.left(word), e.right(word))[kind - 6]
    f = any_expression(choices, depth - 1)
    return (e + f, e * f, e & f, e ^ f)[kind - 2]


def all_words(letters, most):
    """All words over the letters up to a length, in their order."""
    return ["".join(word) for length in range(most + 1) for word in product(letters, repeat=length)]


def fraction(q):
    """The Fraction of a Ratio."""
    return Fraction(q.n, q.d)


def series(machine):
    """The function from words to Fractions, from the numbers of the machine alone; the rows are kept."""
    matrices = {a: [[fraction(q) for q in row] for row in matrix.rows]
                for a, matrix in zip(machine.alphabet.letters, machine.matrices)}
    column = [fraction(q) for q in machine.column]
    rows = {"": [fraction(q) for q in machine.row]}

    def row_after(word):
        if word not in rows:
            found = [Fraction(0)] * len(column)
            for x, row in zip(row_after(word[:-1]), matrices[word[-1]]):
                if x != 0:
                    found = [y + x * z if z != 0 else y for y, z in zip(found, row)]
            rows[word] = found
        return rows[word]
    return lambda word: sum((x * y for x, y in zip(row_after(word), column) if x != 0), Fraction(0))


def weight_of(machine, word):
    """The weight of a word as a Fraction."""
    return series(machine)(word)


def combination(vectors, goal):
    """The multiples of the vectors (of Fractions) that add up to the goal, or None if there are none.

    If the vectors are dependent, these are any such multiples.
    """
    rows = [[vector[at] for vector in vectors] + [item] for at, item in enumerate(goal)]
    places = []
    for column in range(len(vectors)):
        at = next((at for at in range(len(places), len(rows)) if rows[at][column] != 0), None)
        if at is not None:
            lead = len(places)
            rows[lead], rows[at] = rows[at], rows[lead]
            rows[lead] = [item / rows[lead][column] for item in rows[lead]]
            for other in range(len(rows)):
                if other != lead:
                    factor = rows[other][column]
                    rows[other] = [x - factor * y for x, y in zip(rows[other], rows[lead])]
            places.append(column)
    if any(row[-1] != 0 for row in rows[len(places):]):
        return None
    found = [Fraction(0)] * len(vectors)
    for row, column in zip(rows, places):
        found[column] = row[-1]
    return found


def chosen(words, vectors):
    """The words whose vector is no combination of the vectors of those chosen before, and these vectors."""
    found, basis, leads = [], [], []
    for word, each in zip(words, vectors):
        rest = each
        for place, lead in leads:
            if rest[place] != 0:
                factor = rest[place]
                rest = [x - factor * y if y != 0 else x for x, y in zip(rest, lead)]
        place = next((at for at, x in enumerate(rest) if x != 0), None)
        if place is not None:
            leads.append((place, [x / rest[place] for x in rest]))
            found.append(word)
            basis.append(each)
    return found, basis


def numbers_machine(letters, row, matrices, column):
    """A machine from integers and strings such as -1/2; each matrix is a list of rows."""
    size = len(row)
    return Machine(Alphabet(letters), vector(*row), [matrix(*rows, width=size) for rows in matrices], vector(*column))

"""Expressions of series: numbers, letters, and eight operations on expressions."""
from wordweight.errors import Malformed
from wordweight.ratio import Ratio

# The bounds of an expression; the integers in it are below _BEYOND.
_DEPTH = 40
_COUNT = 200
_BEYOND = 10 ** 60

_LONGEST = 8


class Expression:
    """An expression: its kind, and the tuple of its parts, which are a number, words and operands."""

    def __init__(self, kind, parts):
        self.kind = kind
        self.parts = parts
        # The measures are kept from the beginning, so that no measure has to go down into a deep expression.
        operands = [part for part in parts if isinstance(part, Expression)]
        self._depth = 1 + max([operand.depth() for operand in operands], default=0)
        self._count = 1 + sum([operand.count() for operand in operands])
        texts = [part for part in parts if isinstance(part, str)]
        self._letters = _ascending(texts + [operand.used_letters() for operand in operands])

    def __eq__(self, other):
        return isinstance(other, Expression) and _agree(self, other)

    def __add__(self, other):
        return Expression("sum", (self, other))

    def __mul__(self, other):
        return Expression("product", (self, other))

    def __and__(self, other):
        return Expression("both", (self, other))

    def __xor__(self, other):
        return Expression("shuffle", (self, other))

    def star(self):
        """Returns the star of the expression."""
        return Expression("star", (self,))

    def reverse(self):
        """Returns the expression that gives each word the weight of the reversed word."""
        return Expression("reverse", (self,))

    def left(self, u):
        """Returns the expression that gives each word w the weight of u w."""
        return Expression("left", (_checked(u), self))

    def right(self, u):
        """Returns the expression that gives each word w the weight of w u."""
        return Expression("right", (_checked(u), self))

    def depth(self):
        """Returns 1 for a number or a letter, otherwise 1 more than the greatest depth of the operands."""
        return self._depth

    def count(self):
        """Returns the number of numbers, letters and operations."""
        return self._count

    def used_letters(self):
        """Returns the letters that occur, also those of words, each once, from a to z."""
        return self._letters


def operands_of(e):
    """Returns the list of the parts of an expression that are expressions."""
    return [part for part in e.parts if isinstance(part, Expression)]


def _ascending(texts):
    """Returns the letters of all texts, each once, from a to z."""
    return "".join(sorted(set("".join(texts))))


def _agree(e, f):
    """Returns True if both have the same kind and equal parts."""
    # Pairs wait in a list: deep expressions are not to be compared by as many calls.
    waiting = [(e, f)]
    while waiting:
        first, second = waiting.pop()
        if first.kind != second.kind:
            return False
        for x, y in zip(first.parts, second.parts):
            if isinstance(x, Expression):
                waiting.append((x, y))
            elif x != y:
                return False
    return True


def _is_letter(a):
    return isinstance(a, str) and len(a) == 1 and "a" <= a <= "z"


def _checked(u):
    """Returns a word of 1 to 8 small letters as it is; raises Malformed for every other value."""
    if not isinstance(u, str) or not 1 <= len(u) <= _LONGEST or not all([_is_letter(a) for a in u]):
        raise Malformed("the word of left and right has 1 to 8 small letters")
    return u


def number(q):
    """Returns the expression of a number, a Ratio or an integer."""
    return Expression("number", (q if isinstance(q, Ratio) else Ratio(q),))


def letter_of(a):
    """Returns the expression of a letter; raises Malformed for every value that is no small letter."""
    if not _is_letter(a):
        raise Malformed("the letters of expressions are small letters from a to z")
    return Expression("letter", (a,))


def word_of(u):
    """Returns the product of the letters of a word, from the left; the number 1 for the empty word."""
    if u == "":
        return number(1)
    found = letter_of(u[0])
    for a in u[1:]:
        found = found * letter_of(a)
    return found


def is_expression(value):
    """Returns True if the value is an Expression within the bounds."""
    if not isinstance(value, Expression) or value.depth() > _DEPTH or value.count() > _COUNT:
        return False
    return _has_short_numbers(value)


def _has_short_numbers(e):
    """Returns True if the integers in an expression of a small depth have at most 60 digits."""
    if e.kind == "number":
        return abs(e.parts[0].n) < _BEYOND and e.parts[0].d < _BEYOND
    return all([_has_short_numbers(operand) for operand in operands_of(e)])

"""Seen words, kept words, and the one least form of a series."""
from wordweight.linear import Matrix, dot
from wordweight.spans import Span, carried, step_rows


def seen_words(machine):
    """Returns the words, in order, whose column is no combination of the columns of those before."""
    return tuple([word for word, _ in _seen(machine)])


def _seen(machine):
    """Returns the pairs of the seen words and their columns, in order."""
    span = Span()
    found = []
    level = [("", machine.column)]
    while level:
        fresh = []
        for word, column in level:
            if span.grow(column):
                fresh.append((word, column))
        found = found + fresh
        moves = list(zip(machine.alphabet, machine.matrices))
        level = [(a + word, matrix.times(column)) for a, matrix in moves for word, column in fresh]
    return found


def _views(machine):
    """Returns the matrix of the columns of the seen words: the product of a row and it is the view of the row."""
    return Matrix([column for _, column in _seen(machine)], machine.size()).transposed()


def kept_words(machine):
    """Returns the words, in order, whose residual is no combination of the residuals of those before."""
    views = _views(machine)
    return tuple([word for word, _ in step_rows(machine, views)])


def least_form(machine):
    """Returns the one smallest machine of the series whose states stand for the residuals of the kept words."""
    views = _views(machine)
    rows = [row for _, row in step_rows(machine, views)]
    return carried(machine, rows, views)


def is_zero(machine):
    """Returns True if the series is zero at every word."""
    return all([dot(machine.row, column).is_zero() for _, column in _seen(machine)])


def rank(machine):
    """Returns the size of the least form."""
    return len(kept_words(machine))

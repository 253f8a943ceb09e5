"""The least word at which two machines differ, or a paper that they agree."""
from wordweight.errors import Refused
from wordweight.linear import dot, identity
from wordweight.spans import carried, step_rows


def difference(one, two):
    """Returns the machine whose weights are those of the first machine less those of the second one."""
    if one.alphabet != two.alphabet:
        raise Refused("alphabet")
    return one - two


def compare(one, two):
    """Returns ("differ", word) with the least word at which the weights differ, or ("agree", paper)."""
    gap = difference(one, two)
    whole = identity(gap.size())
    rows = []
    for word, row in step_rows(gap, whole):
        if not dot(row, gap.column).is_zero():
            return ("differ", word)
        rows.append(row)
    # All rows after words are combinations of these: the multiples are the machine on them.
    multiples = carried(gap, rows, whole)
    steps = tuple([matrix.rows for matrix in multiples.matrices])
    return ("agree", ("agree", tuple(rows), multiples.row, steps))


def agree(one, two):
    """Returns True if the series are equal."""
    gap = difference(one, two)
    whole = identity(gap.size())
    for _, row in step_rows(gap, whole):
        if not dot(row, gap.column).is_zero():
            return False
    return True

"""From machines to expressions, by taking the states away one by one."""
from wordweight.errors import Refused
from wordweight.expression import letter_of, number
from wordweight.ratio import one

_MOST = 3


def unbuild(machine):
    """Returns an expression whose series is that of the machine; raises Refused("size") for a size above 3."""
    if machine.size() > _MOST:
        raise Refused("size")
    items = _items(machine)
    while len(items) > 1:
        items = _without_first(items)
    found = items[0][0]
    return number(0) if found is None else found


def _items(machine):
    """Returns the rows of the expressions that lead from state to state, None where none does.

    One more row leads from the outside into the states, by the row of the machine, and one more column leads out of
    them, by its column: when all states are taken away, what leads from the outside to the outside is the series.
    """
    n = machine.size()
    inside = [[_move(machine, i, j) for j in range(n)] + [_number(machine.column[i])] for i in range(n)]
    return inside + [[_number(q) for q in machine.row] + [None]]


def _move(machine, i, j):
    """Returns the sum over the letters of the item of their matrix at i, j times the letter."""
    found = None
    for a, matrix in zip(machine.alphabet, machine.matrices):
        found = _sum(found, _product(_number(matrix.rows[i][j]), letter_of(a)))
    return found


def _without_first(items):
    """Returns the items between the states behind the first one, with the ways through the first one added."""
    lead = items[0]
    found = []
    for row in items[1:]:
        begin = row[0]
        # The first state may be gone through again and again. What leads from it to itself is proper.
        if begin is not None and lead[0] is not None:
            begin = _product(begin, lead[0].star())
        found.append([_sum(x, _product(begin, y)) for x, y in zip(row[1:], lead[1:])])
    return found


def _number(q):
    return None if q.is_zero() else number(q)


def _sum(e, f):
    """Returns the sum of two expressions; None stands for zero."""
    if e is None:
        return f
    return e if f is None else e + f


def _product(e, f):
    """Returns the product of two expressions, without factors 1; None stands for zero."""
    if e is None or f is None:
        return None
    if _is_one(e):
        return f
    return e if _is_one(f) else e * f


def _is_one(e):
    return e.kind == "number" and e.parts[0] == one()

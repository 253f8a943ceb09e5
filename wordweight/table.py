"""Tables of weights, and papers that no machine of a series is smaller."""
from wordweight.forms import kept_words, least_form, seen_words
from wordweight.linear import Matrix, dot


def table(machine, us, vs):
    """Returns the weights of u v, one row for each u of us, one item for each v of vs."""
    rows = [machine.row_after(u) for u in us]
    columns = [machine.column_before(v) for v in vs]
    return tuple([tuple([dot(row, column) for column in columns]) for row in rows])


def show_least(machine):
    """Returns the paper ("least", us, vs, weights) that no machine of the series is smaller than its least form."""
    least = least_form(machine)
    us = kept_words(least)
    # The column of the least form before v is the column of the weights of u v for the kept words u.
    vs = seen_words(least)
    # Weights whose products with the columns of the table are 1 at their own one and else 0 are duals of them.
    columns = Matrix(table(least, us, vs), len(vs)).transposed()
    return ("least", us, vs, columns.duals())

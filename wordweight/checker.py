"""The checker of papers. It searches for nothing: it multiplies out and compares."""
from wordweight.differ import difference
from wordweight.linear import Matrix, combine, dot, identity, is_vector
from wordweight.table import table


def takes_agreement(one, two, paper):
    """Returns True if the paper shows that both machines have the same weights; False for every other value."""
    if one.alphabet != two.alphabet:
        return False
    gap = difference(one, two)
    if not _is_agreement(paper, gap):
        return False
    _, rows, start, steps = paper
    if combine(rows, gap.size(), start) != gap.row:
        return False
    for matrix, multiples in zip(gap.matrices, steps):
        if [matrix.before(row) for row in rows] != [combine(rows, gap.size(), each) for each in multiples]:
            return False
    return all([dot(row, gap.column).is_zero() for row in rows])


def _is_agreement(paper, gap):
    """Returns True if the value has the form of a paper of agreement for two machines with this difference."""
    if not _is_paper(paper, "agree"):
        return False
    _, rows, start, steps = paper
    if not _is_table(rows, gap.size()) or not is_vector(start, len(rows)):
        return False
    if not isinstance(steps, tuple) or len(steps) != len(gap.alphabet):
        return False
    return all([_is_table(multiples, len(rows)) and len(multiples) == len(rows) for multiples in steps])


def takes_least(machine, paper):
    """Returns True if the paper shows that no machine of the series is smaller than its number of words."""
    if not _is_least(paper, machine.alphabet):
        return False
    _, us, vs, weights = paper
    found = Matrix(table(machine, us, vs), len(vs))
    return Matrix(weights, len(us)) * found == identity(len(us))


def _is_least(paper, alphabet):
    """Returns True if the value has the form of a paper of leastness over the alphabet."""
    if not _is_paper(paper, "least"):
        return False
    _, us, vs, weights = paper
    if not _are_words(us, alphabet) or not _are_words(vs, alphabet) or len(us) != len(vs):
        return False
    return _is_table(weights, len(us)) and len(weights) == len(us)


def _is_paper(value, name):
    """Returns True if the value is a tuple of the name and three more items."""
    return isinstance(value, tuple) and len(value) == 4 and value[0] == name


def _is_table(value, width):
    """Returns True if the value is a tuple of vectors of the width."""
    return isinstance(value, tuple) and all([is_vector(row, width) for row in value])


def _are_words(value, alphabet):
    """Returns True if the value is a tuple of words over the alphabet."""
    return isinstance(value, tuple) and all([word in alphabet for word in value])

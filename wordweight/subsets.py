"""Determined machines, machines that count, and what shows that plain machines accept the same words."""
from wordweight.deeds import hadamard
from wordweight.differ import compare
from wordweight.errors import Malformed
from wordweight.linear import Matrix
from wordweight.machine import Machine
from wordweight.plain import determined, least_rows, subset_rows
from wordweight.ratio import is_integer, one, zero
from wordweight.walks import walked, word_to


def subset_machine(a):
    """Returns the determined machine whose states are the sets of states that words lead to."""
    rows, ends = subset_rows(a)
    return determined(a.alphabet, rows, ends)


def least_machine(a):
    """Returns the smallest determined machine that accepts the same words."""
    rows, ends = least_rows(a)
    return determined(a.alphabet, rows, ends)


def counting(a):
    """Returns the weighted machine that gives each word the number of its runs."""
    return Machine(a.alphabet, _marks(a.starts, a.states), [_matrix(a, letter) for letter in a.alphabet],
                   _marks(a.ends, a.states))


def _marks(states, size):
    """Returns the vector with 1 at the states and 0 elsewhere."""
    found = [zero()] * size
    for i in states:
        found[i] = one()
    return found


def _matrix(a, letter):
    """Returns the matrix with 1 where there is a move with the letter and 0 elsewhere."""
    return Matrix([_marks(a.after((i,), letter), a.states) for i in range(a.states)], a.states)


def characteristic(a):
    """Returns the weighted machine that gives each word the weight 1 if it is accepted, and 0 otherwise."""
    return counting(least_machine(a))


def alike(a, b):
    """Returns ("table", pairs) that shows that both accept the same words, or ("word", w) with the least other one."""
    _check(a, b)
    first, second = _rows(a), _rows(b)
    start = (a.starts[0], b.starts[0])
    pairs, rows = walked(start, lambda pair: list(zip(first[pair[0]], second[pair[1]])))
    for at, pair in enumerate(pairs):
        if not _agree(a, b, pair):
            return ("word", word_to(a.alphabet.letters, rows, at))
    return ("table", tuple(sorted(pairs)))


def shows_alike(a, b, pairs):
    """Returns True if the pairs are a table that shows that both accept the same words; False for other values."""
    _check(a, b)
    if not _is_table(a, b, pairs):
        return False
    known = {pair: True for pair in pairs}
    if (a.starts[0], b.starts[0]) not in known:
        return False
    first, second = _rows(a), _rows(b)
    for i, j in pairs:
        if not _agree(a, b, (i, j)) or not all([then in known for then in zip(first[i], second[j])]):
            return False
    return True


def _check(a, b):
    """Raises Malformed if not both machines are determined, over one alphabet."""
    if a.alphabet != b.alphabet:
        raise Malformed("both plain machines need the same alphabet")
    if not a.is_determined() or not b.is_determined():
        raise Malformed("both plain machines have to be determined")


def _rows(a):
    """Returns for each state of a determined machine the states that the letters lead to."""
    # The moves of a determined machine ascend by states and letters, and none is missing.
    nexts = [j for _, _, j in a.moves]
    many = len(a.alphabet)
    return [nexts[at:at + many] for at in range(0, len(nexts), many)]


def _agree(a, b, pair):
    """Returns True if both states of the pair are ends, or neither is."""
    return a.accepts(pair[:1]) == b.accepts(pair[1:])


def _is_table(a, b, pairs):
    """Returns True if the value is a strictly ascending tuple of pairs of states."""
    if not isinstance(pairs, tuple) or not all([_is_pair(a, b, pair) for pair in pairs]):
        return False
    return all([one_pair < next_pair for one_pair, next_pair in zip(pairs, pairs[1:])])


def _is_pair(a, b, pair):
    if not isinstance(pair, tuple) or len(pair) != 2 or not all([is_integer(i) for i in pair]):
        return False
    return 0 <= pair[0] < a.states and 0 <= pair[1] < b.states


def unambiguous(a):
    """Returns ("paper", paper) that no word has two runs, or ("word", w) with the least word that has."""
    counter = counting(a)
    # A number of runs equals its square exactly if it is 0 or 1.
    kind, found = compare(counter, hadamard(counter, counter))
    return ("paper" if kind == "agree" else "word", found)

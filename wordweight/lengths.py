"""Sums of the weights of all words of one length, and the quotient of polynomials that has them as coefficients."""
from wordweight.forms import least_form
from wordweight.linear import dot, nothing
from wordweight.machine import Machine
from wordweight.poly import Poly
from wordweight.ratio import Ratio
from wordweight.words import Alphabet


def _one_letter(machine):
    """Returns a machine over one letter; it gives each word the length sum of the machine for its length."""
    whole = nothing(machine.size(), machine.size())
    for matrix in machine.matrices:
        whole = whole + matrix
    return Machine(Alphabet("a"), machine.row, [whole], machine.column)


def length_sums(machine, count):
    """Returns the sums of the weights of all words of the lengths from 0 to count - 1."""
    counter = _one_letter(machine)
    row = counter.row
    found = []
    for _ in range(count):
        found.append(dot(row, counter.column))
        row = counter.matrices[0].before(row)
    return tuple(found)


def recurrence(machine):
    """Returns the coefficients (b_1, .., b_l) of the least recurrence of the length sums."""
    least = least_form(_one_letter(machine))
    if least.size() == 0:
        return ()
    # Its states stand for the sums from the lengths 0, .., l - 1 on. The last row combines them to those from l on.
    return least.matrices[0].rows[-1][::-1]


def length_quotient(machine):
    """Returns the polynomials (p, q) without a common divisor, q(0) = 1, whose quotient has the length sums."""
    coefficients = recurrence(machine)
    q = Poly([1] + [-item for item in coefficients])
    known = q * Poly(length_sums(machine, len(coefficients)))
    p = Poly([known.coefficient(k) for k in range(len(coefficients))])
    return (p, q)


def total(machine):
    """Returns p(1) / q(1) for the length quotient, or None if q(1) is 0."""
    p, q = length_quotient(machine)
    below = q.value(Ratio(1))
    return None if below.is_zero() else p.value(Ratio(1)).over(below)


def least_length(one, two):
    """Returns the least length at which the length sums differ, or None; raises Malformed if the alphabets differ."""
    gap = one - two
    for length, item in enumerate(length_sums(gap, gap.size())):
        if not item.is_zero():
            return length
    return None

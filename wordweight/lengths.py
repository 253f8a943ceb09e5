"""Sums of the weights of all words of one length, and the quotient of polynomials that has them as coefficients."""
from wordweight.linear import dot, nothing
from wordweight.poly import Poly
from wordweight.ratio import Ratio


def length_sums(machine, count):
    """Returns the sums of the weights of all words of the lengths from 0 to count - 1."""
    whole = nothing(machine.size(), machine.size())
    for matrix in machine.matrices:
        whole = whole + matrix
    row = machine.row
    found = []
    for _ in range(count):
        found.append(dot(row, machine.column))
        row = whole.before(row)
    return tuple(found)


def recurrence(machine):
    """Returns the coefficients (b_1, .., b_l) of the least recurrence of the length sums."""
    # A recurrence of at most as many coefficients as the size, that holds up to twice the size, holds for all sums.
    q, length = _least(length_sums(machine, 2 * machine.size()))
    return tuple([-q.coefficient(k) for k in range(1, length + 1)])


def _least(sums):
    """Returns q = 1 - b_1 x - .. of the least recurrence of the sums, and its length (the way of Berlekamp and Massey).

    A recurrence that fails at a sum is mended there by the one that was given up last, multiplied by a power of x:
    this one failed somewhere, too, and what both miss is taken away. Linear equations would need larger numbers.
    """
    q, length = Poly([1]), 0
    older, missed, shift = Poly([1]), Ratio(1), 1
    for k in range(len(sums)):
        gap = dot(q.row, sums[k::-1])
        if gap.is_zero():
            shift = shift + 1
        else:
            factor = gap.over(missed)
            mended = q - Poly([0] * shift + [factor * item for item in older])
            if 2 * length > k:
                shift = shift + 1
            else:
                length = k + 1 - length
                older, missed, shift = q, gap, 1
            q = mended
    return (q, length)


def length_quotient(machine):
    """Returns the polynomials (p, q) without a common divisor, q(0) = 1, whose quotient has the length sums."""
    coefficients = recurrence(machine)
    q = Poly([1] + [-item for item in coefficients])
    known = q * Poly(length_sums(machine, len(coefficients)))
    p = Poly([known.coefficient(k) for k in range(len(coefficients))])
    return (p, q)


def total(machine):
    """Returns p(1) / q(1) for the length quotient, or None if q(1) is 0."""
    p, q = length_quotient(machine)
    below = q.value(Ratio(1))
    return None if below.is_zero() else p.value(Ratio(1)).over(below)


def least_length(one, two):
    """Returns the least length at which the length sums differ, or None; raises Malformed if the alphabets differ."""
    gap = one - two
    for length, item in enumerate(length_sums(gap, gap.size())):
        if not item.is_zero():
            return length
    return None

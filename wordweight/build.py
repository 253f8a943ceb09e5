"""From expressions to machines."""
from wordweight.deeds import hadamard, is_proper, left_quotient, product, right_quotient, shuffle, star
from wordweight.errors import Refused
from wordweight.expression import operands_of
from wordweight.machine import constant, letter


def build(expression, alphabet, *, most=60):
    """Returns the machine of an expression.

    Raises Refused("letter"), Refused("star") or Refused("size"), whichever the building from the operands on, from
    the left to the right, meets first.
    """
    kind = expression.kind
    if kind in ("letter", "left", "right"):
        _check_letters(alphabet, expression.parts[0])
    machines = [build(operand, alphabet, most=most) for operand in operands_of(expression)]
    if kind == "star" and not is_proper(machines[0]):
        raise Refused("star")
    # The size is known before the machine is made: one that is too large is not made at all.
    if _size(kind, [machine.size() for machine in machines]) > most:
        raise Refused("size")
    if kind == "number":
        return constant(alphabet, expression.parts[0])
    if kind == "letter":
        return letter(alphabet, expression.parts[0])
    if len(machines) == 2:
        return _joined(kind, machines[0], machines[1])
    return _changed(kind, expression.parts[0], machines[0])


def _check_letters(alphabet, word):
    """Raises Refused("letter") if the word has a letter that is none of the alphabet."""
    if word not in alphabet:
        raise Refused("letter")


def _size(kind, sizes):
    """Returns the size of the machine of an expression from those of its operands."""
    if kind == "number":
        return 1
    if kind == "letter":
        return 2
    if kind == "star":
        return sizes[0] + 1
    if kind in ("both", "shuffle"):
        return sizes[0] * sizes[1]
    return sum(sizes)


def _joined(kind, f, g):
    """Returns the machine of an operation with two operands."""
    if kind == "sum":
        return f + g
    if kind == "product":
        return product(f, g)
    if kind == "both":
        return hadamard(f, g)
    return shuffle(f, g)


def _changed(kind, part, f):
    """Returns the machine of an operation with one operand; the part is the word of left and right."""
    if kind == "star":
        return star(f)
    if kind == "reverse":
        return f.transposed()
    if kind == "left":
        return left_quotient(f, part)
    return right_quotient(f, part)

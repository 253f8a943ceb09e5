"""The weights that an expression gives to words, by the definitions of its operations."""
from wordweight.errors import Refused
from wordweight.expression import operands_of
from wordweight.ratio import one, total, zero
from wordweight.words import cuts, sortings


class Series:
    """An expression with the weights that have been asked for, so that each of them is found once."""

    def __init__(self, e):
        self.kind = e.kind
        self.parts = e.parts
        self.operands = [Series(operand) for operand in operands_of(e)]
        self.known = {}

    def is_defined(self):
        """Returns True if all stars are defined, those of the operands first: their weights decide about this one."""
        if not all([operand.is_defined() for operand in self.operands]):
            return False
        return self.kind != "star" or self.operands[0].weight("").is_zero()

    def weight(self, word):
        """Returns the weight of a word in a defined expression."""
        if word not in self.known:
            self.known[word] = self._found(word)
        return self.known[word]

    def _found(self, word):
        kind = self.kind
        if kind == "number":
            return self.parts[0] if word == "" else zero()
        if kind == "letter":
            return one() if word == self.parts[0] else zero()
        if kind == "star":
            return self._divided(word)
        if kind == "left":
            return self.operands[0].weight(self.parts[0] + word)
        if kind == "right":
            return self.operands[0].weight(word + self.parts[0])
        if kind == "reverse":
            return self.operands[0].weight(word[::-1])
        e, f = self.operands
        if kind == "sum":
            return e.weight(word) + f.weight(word)
        if kind == "both":
            return e.weight(word) * f.weight(word)
        if kind == "product":
            return _products(e, f, list(cuts(word)))
        return _products(e, f, sortings(word))

    def _divided(self, word):
        """Returns the sum over the divisions of the word of the products of the weights of their parts."""
        # Each division is a first part and a division of the rest: behind[k] has the sum for the last k letters.
        operand = self.operands[0]
        behind = [one()]
        for length in range(1, len(word) + 1):
            tail = word[len(word) - length:]
            firsts = [at for at in range(1, length + 1) if not behind[length - at].is_zero()]
            behind.append(total([operand.weight(tail[:at]) * behind[length - at] for at in firsts]))
        return behind[-1]


def _products(e, f, pairs):
    """Returns the sum over the pairs of the products of the weights of the first word in e and the other one in f."""
    found = zero()
    for u, v in pairs:
        first = e.weight(u)
        if not first.is_zero():
            found = found + first * f.weight(v)
    return found


def _defined(e):
    """Returns the series of an expression; raises Refused("star") if a star is not defined."""
    series = Series(e)
    if not series.is_defined():
        raise Refused("star")
    return series


def weight(e, word):
    """Returns the weight of a word; raises Refused("star") if the expression is not defined, whatever the word is."""
    return _defined(e).weight(word)


def empty_weight(e):
    """Returns the weight of the empty word; raises Refused("star") as weight does."""
    return _defined(e).weight("")


def is_defined(e):
    """Returns True if all stars in the expression are defined."""
    return Series(e).is_defined()

"""The text of an expression: reading and showing."""
from wordweight.errors import NoText
from wordweight.expression import is_expression, letter_of, number
from wordweight.tokens import tokens_of

_LONGEST_TEXT = 2000
_LONGEST_WORD = 8
_MOST_OPENED = 40
_MOST_PREFIXES = 40

_KINDS = {"+": "sum", "&": "both", "#": "shuffle"}
_BETWEEN = {"sum": " + ", "both": " & ", "shuffle": " # ", "product": " "}

# What has a higher rank holds its operands closer. An open parenthesis waits below all operations.
_RANKS = {
    "(": -1, "sum": 0, "both": 1, "shuffle": 2, "product": 3, "left": 4, "right": 4, "reverse": 4, "star": 5,
    "number": 5, "letter": 5,
}


class Reader:
    """Takes the tokens of a text from the left to the right.

    Two lists hold what has been taken: finished expressions, and what waits until its last operand is finished
    (operations, prefixes and open parentheses), as pairs of a kind and a word.
    """

    def __init__(self, text):
        self.tokens = tokens_of(text)
        self.at = 0
        self.finished = []
        self.waiting = []
        self.opened = 0

    def expression(self):
        """Returns the expression of the text; raises NoText at a token that cannot stand at its place."""
        self._operand()
        while self._kind() != "end":
            self._operation()
            self._operand()
        if self.opened > 0:
            raise NoText(self._place())
        self._finish(_RANKS["sum"])
        return self.finished[0]

    def _kind(self):
        return self.tokens[self.at][0]

    def _place(self):
        return self.tokens[self.at][1]

    def _take(self, kinds):
        """Returns the kind and the worth of the next token, which is to be of one of the kinds."""
        kind, place, worth = self.tokens[self.at]
        if kind not in kinds:
            raise NoText(place)
        self.at = self.at + 1
        return (kind, worth)

    def _operand(self):
        """Takes a number or a letter, with the prefixes and parentheses before it and the signs that end behind it."""
        self._openings()
        kind, worth = self._take(("number", "letter"))
        self.finished.append(number(worth) if kind == "number" else letter_of(worth))
        while self._kind() in ("*", ")"):
            if self._kind() == ")":
                self._close()
            else:
                self.finished.append(self.finished.pop().star())
            self.at = self.at + 1

    def _openings(self):
        """Takes prefixes and opening parentheses, up to the bounds of both."""
        prefixes = 0
        while self._kind() in ("~", "[", "("):
            if self._kind() == "(":
                if self.opened == _MOST_OPENED:
                    raise NoText(self._place())
                self.at = self.at + 1
                self.waiting.append(("(", ""))
                self.opened = self.opened + 1
                prefixes = 0
            else:
                if prefixes == _MOST_PREFIXES:
                    raise NoText(self._place())
                self.waiting.append(self._prefix())
                prefixes = prefixes + 1

    def _prefix(self):
        """Takes a prefix; returns its kind and its word."""
        sign, _ = self._take(("~", "["))
        if sign == "~":
            return ("reverse", "")
        kind = "left"
        if self._kind() == ":":
            self._take((":",))
            kind = "right"
        word = self._word()
        if kind == "left":
            self._take((":",))
        self._take(("]",))
        return (kind, word)

    def _word(self):
        """Takes letters without spaces between them, as many as a word may have."""
        _, word = self._take(("letter",))
        end = self.tokens[self.at - 1][1] + 1
        while self._kind() == "letter" and self._place() == end and len(word) < _LONGEST_WORD:
            _, a = self._take(("letter",))
            word = word + a
            end = end + 1
        return word

    def _close(self):
        """Finishes all that stands in the parenthesis that is closed here."""
        if self.opened == 0:
            raise NoText(self._place())
        self._finish(_RANKS["sum"])
        self.waiting.pop()
        self.opened = self.opened - 1

    def _operation(self):
        """Lets an operation wait for its right operand; a product has no sign of its own."""
        kind = _KINDS.get(self._kind(), "product")
        self._finish(_RANKS[kind])
        self.waiting.append((kind, ""))
        if kind != "product":
            self.at = self.at + 1

    def _finish(self, rank):
        """Finishes what waits last, as long as it has at least this rank."""
        while self.waiting and _RANKS[self.waiting[-1][0]] >= rank:
            kind, word = self.waiting.pop()
            last = self.finished.pop()
            if kind in _BETWEEN:
                self.finished.append(_joined(kind, self.finished.pop(), last))
            else:
                self.finished.append(_prefixed(kind, word, last))


def _joined(kind, e, f):
    if kind == "sum":
        return e + f
    if kind == "both":
        return e & f
    if kind == "shuffle":
        return e ^ f
    return e * f


def _prefixed(kind, word, e):
    if kind == "reverse":
        return e.reverse()
    return e.left(word) if kind == "left" else e.right(word)


def read(text):
    """Returns the expression of a text; raises NoText with the place at which it goes wrong."""
    if not isinstance(text, str) or len(text) > _LONGEST_TEXT:
        raise NoText(0)
    found = Reader(text).expression()
    if not is_expression(found):
        raise NoText(len(text))
    return found


def show(e):
    """Returns the text of an expression."""
    kind = e.kind
    if kind == "number":
        return str(e.parts[0])
    if kind == "letter":
        return e.parts[0]
    rank = _RANKS[kind]
    last = e.parts[-1]
    if kind in _BETWEEN:
        # Operations associate to the left, so a right operand of the same rank would go to the left one.
        return _shown(e.parts[0], rank) + _BETWEEN[kind] + _shown(last, rank + 1)
    if kind == "star":
        return _shown(last, rank) + "*"
    if kind == "reverse":
        return "~" + _shown(last, rank)
    brackets = f"[{e.parts[0]}:]" if kind == "left" else f"[:{e.parts[0]}]"
    return brackets + _shown(last, rank)


def _shown(e, least):
    """Returns the text of an operand, in parentheses if its rank is below the least one."""
    return f"({show(e)})" if _RANKS[e.kind] < least else show(e)

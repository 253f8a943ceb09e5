"""The tokens of the text of an expression."""
from wordweight.errors import NoText
from wordweight.ratio import read_ratio

_SIGNS = "+&#*~()[]:"
_DIGITS = "0123456789"
_LONGEST = 60


def tokens_of(text):
    """Returns the list of the tokens, triples of a kind, the index of the first character, and a worth.

    The kinds are "number" (its worth is the Ratio), "letter" (the letter), and the signs. The last token is "end" at
    the length of the text, or "wrong" at the first character that begins no token, where a number that begins where
    another one ends is counted as none.
    """
    found = []
    at = _behind(text, 0, " ")
    while at < len(text):
        kind, worth, end = _token(text, at)
        found.append((kind, at, worth))
        if kind == "wrong":
            return found
        at = _behind(text, end, " ")
    return found + [("end", len(text), None)]


def _behind(text, at, characters):
    """Returns the first index from at on that has none of the characters, or the length of the text."""
    return len(text) - len(text[at:].lstrip(characters))


def _token(text, at):
    """Returns the kind and the worth of the token at an index, and the index behind it."""
    if text[at] in _SIGNS:
        return (text[at], None, at + 1)
    if "a" <= text[at] <= "z":
        return ("letter", text[at], at + 1)
    end = _number_end(text, at)
    q = _number(text[at:end])
    if q is None:
        return ("wrong", None, at)
    return ("number", q, end)


def _number_end(text, at):
    """Returns the index behind the longest number at an index, or this index if there is none."""
    # A digit in front of a minus sign is the end of a number, and two numbers need a space between them.
    if text[at] == "-" and at > 0 and text[at - 1] in _DIGITS:
        return at
    first = at + 1 if text[at] == "-" else at
    end = _behind(text, first, _DIGITS)
    if end == first:
        return at
    if text[end:end + 1] == "/":
        lower = _behind(text, end + 1, _DIGITS)
        if lower > end + 1:
            return lower
    return end


def _number(text):
    """Returns the Ratio whose written form is the text, with at most 60 digits in each part, or None."""
    if max([len(part) for part in text.removeprefix("-").split("/")]) > _LONGEST:
        return None
    try:
        return read_ratio(text)
    except NoText:
        return None

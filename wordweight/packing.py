"""Plain data (integers, words and tuples) and their text, and objects packed as plain data."""
from wordweight.errors import Malformed, NoText
from wordweight.linear import Matrix, is_vector
from wordweight.machine import Machine
from wordweight.poly import Poly
from wordweight.ratio import Ratio, from_digits, is_integer
from wordweight.words import Alphabet

_DEEPEST = 60
_LONGEST = 12
_DIGITS = "0123456789"
_LETTERS = "abcdefghijklmnopqrstuvwxyz"


def packed(value):
    """Returns the packed form of an object; raises Malformed for every value that has none."""
    return _packed(value, 0)


def _packed(value, around):
    """Returns the packed form of an object within as many tuples as are told."""
    if around == _DEEPEST:
        raise Malformed("the packed form is nested too deep")
    if is_integer(value):
        return ("i", value)
    if isinstance(value, str):
        return ("s",) + _pieces(value)
    if isinstance(value, Ratio):
        return ("r", value.n, value.d)
    if isinstance(value, Poly):
        return ("p",) + _all_packed(value.row, around)
    if isinstance(value, Matrix):
        return ("m", value.width) + _all_packed(value.rows, around)
    if isinstance(value, Machine):
        return ("w", value.alphabet.letters) + _all_packed((value.row, value.column) + value.matrices, around)
    if isinstance(value, tuple):
        return ("t",) + _all_packed(value, around)
    raise Malformed("no value of this kind has a packed form")


def _all_packed(items, around):
    return tuple([_packed(item, around + 1) for item in items])


def _pieces(text):
    """Returns the pieces of 12 letters, and the rest, of a string; raises Malformed for other characters."""
    if text.strip(_LETTERS) != "":
        raise Malformed("a string that is packed has small letters only")
    return tuple([text[at:at + _LONGEST] for at in range(0, len(text), _LONGEST)])


def unpacked(data):
    """Returns the object whose packed form is the data; raises Malformed for every value for which there is none."""
    if not _is_plain(data, 0):
        raise Malformed("a packed form is plain data")
    found = _unpacked(data)
    # Numbers not in lowest terms, zeros at the end and wrong pieces are known by this: they are not given back.
    if packed(found) != data:
        raise Malformed("no object has this packed form")
    return found


def _unpacked(data):
    """Returns an object that has the packed form, if any object has it."""
    if not isinstance(data, tuple) or data == ():
        raise Malformed("a packed form is a tuple")
    kind, *rest = data
    if kind == "i" and len(rest) == 1 and is_integer(rest[0]):
        return rest[0]
    if kind == "r" and len(rest) == 2 and is_integer(rest[0]) and is_integer(rest[1]) and rest[1] > 0:
        return Ratio(rest[0], rest[1])
    if kind == "s" and all([isinstance(piece, str) for piece in rest]):
        return "".join(rest)
    if kind == "t":
        return tuple(_all_unpacked(rest))
    if kind == "p":
        return _poly(_all_unpacked(rest))
    if kind == "m" and rest and is_integer(rest[0]) and rest[0] >= 0:
        return _matrix(_all_unpacked(rest[1:]), rest[0])
    if kind == "w" and len(rest) > 2:
        return _machine(Alphabet(rest[0]), _all_unpacked(rest[1:]))
    raise Malformed("no object has this packed form")


def _all_unpacked(items):
    return [_unpacked(item) for item in items]


def _poly(row):
    if not all([isinstance(item, Ratio) for item in row]):
        raise Malformed("the coefficients of a polynomial are ratios")
    return Poly(row)


def _matrix(rows, width):
    if not all([is_vector(row, width) for row in rows]):
        raise Malformed("the rows of a matrix are tuples of ratios, as many as its width tells")
    return Matrix(rows, width)


def _machine(alphabet, parts):
    row, column, *matrices = parts
    if not all([isinstance(vector, tuple) and is_vector(vector, len(vector)) for vector in (row, column)]):
        raise Malformed("the row and the column of a machine are tuples of ratios")
    if not all([isinstance(matrix, Matrix) for matrix in matrices]):
        raise Malformed("a machine has matrices")
    return Machine(alphabet, row, matrices, column)


def _is_plain(value, around):
    """Returns True if a value within as many tuples as are told is plain data."""
    if isinstance(value, tuple):
        return around < _DEEPEST and all([_is_plain(item, around + 1) for item in value])
    if isinstance(value, str):
        return 1 <= len(value) <= _LONGEST and value.strip(_LETTERS) == ""
    return is_integer(value)


def written(data):
    """Returns the text of plain data; raises Malformed for every other value."""
    if not _is_plain(data, 0):
        raise Malformed("plain data are integers, words of 1 to 12 small letters, and tuples of such")
    return _text(data)


def _text(data):
    if isinstance(data, tuple):
        return "(" + " ".join([_text(item) for item in data]) + ")"
    return data if isinstance(data, str) else str(Ratio(data))


def read_data(text):
    """Returns the plain data with this text; raises NoText with the first index at which it goes wrong."""
    if not isinstance(text, str):
        raise NoText(0)
    # The last list has the items of the tuple that was opened last; the first one is for the whole.
    opened = [[]]
    at = 0
    while not opened[0]:
        at = _begin(text, at, opened)
        while len(opened) > 1 and text[at:at + 1] == ")":
            items = opened.pop()
            opened[-1].append(tuple(items))
            at = at + 1
        if len(opened) > 1:
            if text[at:at + 1] != " ":
                raise NoText(at)
            at = at + 1
    if at < len(text):
        raise NoText(at)
    return opened[0][0]


def _begin(text, at, opened):
    """Takes opening parentheses and the integer or word behind them, if there is one; returns the index behind."""
    end = at
    while text[end:end + 1] == "(" and len(opened) <= _DEEPEST:
        opened.append([])
        end = end + 1
    if end > at and text[end:end + 1] == ")":
        return end
    if "a" <= text[end:end + 1] <= "z":
        last = _behind(text, end, _LETTERS, end + _LONGEST)
        opened[-1].append(text[end:last])
        return last
    last = _number_end(text, end)
    item = from_digits(text[end:last].removeprefix("-"))
    opened[-1].append(-item if text[end] == "-" else item)
    return last


def _number_end(text, at):
    """Returns the index behind the integer at an index; raises NoText where none goes on."""
    first = at + 1 if text[at:at + 1] == "-" else at
    end = _behind(text, first, _DIGITS, len(text))
    if end == first or (first > at and text[first] == "0"):
        raise NoText(first)
    # Zero is an integer by itself: no digit goes on behind it.
    return first + 1 if text[first] == "0" else end


def _behind(text, at, characters, most):
    """Returns the first index from at on that has none of the characters, or most, or the length of the text."""
    while at < most and at < len(text) and text[at] in characters:
        at = at + 1
    return at

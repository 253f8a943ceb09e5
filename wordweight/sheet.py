"""The lines of worksheets: their forms, the names in them, and the texts of weighted machines."""
from wordweight.errors import NoText, Refused
from wordweight.plain import read_plain
from wordweight.text import read

_LONGEST = 2000
_LONGEST_WORD = 20
_PERCENT = 37

# The kinds of the texts behind the first word of a line: names, expressions, words and plain machines.
_FORMS = {
    "let": "NE", "weight": "EW", "least": "E", "compare": "EE", "lengths": "E", "write": "E", "accept": "PW",
    "state": "P", "once": "P",
}


def _is_name(text):
    return len(text) == 1 and "A" <= text <= "Z"


def full_text(names, text):
    """Returns the text with the full texts, in parentheses, in the place of the names in it.

    Raises Refused("name") for a name that is not defined, otherwise Refused("long") if the result is too long.
    """
    _check_names(names, text)
    full = "".join([f"({names[character]})" if _is_name(character) else character for character in text])
    if len(full) > _LONGEST:
        raise Refused("long")
    return full


def _check_names(names, text):
    """Raises Refused("name") if a name in the text is not defined."""
    if not all([character in names for character in text if _is_name(character)]):
        raise Refused("name")


def read_line(alphabet, names, line):
    """Returns what a line says: ("empty",), ("let", NAME, full text), or its first word and what its texts stand for.

    Raises NoText or Refused if it cannot be read.
    """
    command, pieces = _pieces(_checked(line))
    if command == "":
        return ("empty",)
    # All texts are looked at for one refusal before the next one.
    for kind, text, _ in pieces:
        if kind == "E":
            _check_names(names, text)
    fulls = [(kind, full_text(names, text) if kind == "E" else text, at) for kind, text, at in pieces]
    found = [_worth(alphabet, kind, text, at) for kind, text, at in fulls]
    if command == "let":
        return ("let", found[0], fulls[1][1])
    return (command, *found)


def names_after(alphabet, names, line):
    """Returns the definitions, in a new dict, after a line: only a let line that can be read changes them."""
    found = dict(names)
    try:
        told = read_line(alphabet, names, line)
    except (NoText, Refused):
        return found
    if told[0] == "let":
        found[told[1]] = told[2]
    return found


def _checked(line):
    """Returns the line as it is; raises NoText(0) if it is no string of allowed characters, or too long."""
    if not isinstance(line, str) or len(line) > _LONGEST:
        raise NoText(0)
    if not all([" " <= character <= "~" and ord(character) != _PERCENT for character in line]):
        raise NoText(0)
    return line


def _pieces(line):
    """Returns the first word of a line, and its texts as triples of their kind, their characters and their index.

    The first word is empty if the line is, or if it begins with #. Raises NoText(0) for a line of no form.
    """
    told = line.strip(" ")
    if told == "" or told.startswith("#"):
        return ("", [])
    command, _, rest = told.partition(" ")
    kinds = _FORMS.get(command, "")
    between, other = ("=", ";") if command == "let" else (";", "=")
    parts = rest.split(between)
    if len(parts) != len(kinds) or other in rest:
        raise NoText(0)
    found = []
    begin = line.find(told) + len(command) + 1
    for kind, part in zip(kinds, parts):
        text = part.strip(" ")
        if text == "" or (kind == "N" and not _is_name(text)):
            raise NoText(0)
        found.append((kind, text, begin + part.find(text)))
        begin = begin + len(part) + 1
    return (command, found)


def _worth(alphabet, kind, text, at):
    """Returns what a text stands for; raises NoText(at) if it cannot be read."""
    try:
        if kind == "E":
            return _expression(alphabet, text)
        if kind == "W":
            return _word(alphabet, text)
        if kind == "P":
            return _plain(alphabet, text)
        return text
    except NoText:
        raise NoText(at) from None


def _expression(alphabet, text):
    found = read(text)
    if found.used_letters() not in alphabet:
        raise NoText(0)
    return found


def _word(alphabet, text):
    if text == "-":
        return ""
    if len(text) > _LONGEST_WORD or text not in alphabet:
        raise NoText(0)
    return text


def _plain(alphabet, text):
    # The text of a machine without moves ends with a space, which a line does not have.
    end = " " if text.endswith(",") else ""
    return read_plain(alphabet, text.replace(",", ";") + end)


def plain_text(a):
    """Returns the text of a plain machine as it stands in a line."""
    return str(a).replace(";", ",").rstrip(" ")


def machine_text(machine):
    """Returns the text of a weighted machine: its row, its matrices behind their letters, its column."""
    matrices = [f"{letter}: {_matrix(matrix)}" for letter, matrix in zip(machine.alphabet, machine.matrices)]
    return " | ".join([_vector(machine.row)] + matrices + [_vector(machine.column)])


def _matrix(matrix):
    return _joined([_vector(row) for row in matrix.rows], ", ")


def _vector(row):
    return _joined([str(item) for item in row], " ")


def _joined(texts, between):
    """Returns the texts with what stands between them; a point for no texts."""
    return between.join(texts) if texts else "."

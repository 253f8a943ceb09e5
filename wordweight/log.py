"""Logs: the entries of a console, their text, and the first entry that is not right."""
from wordweight.errors import Malformed, NoText
from wordweight.packing import packed, read_data, unpacked, written
from wordweight.replies import Reply, is_right
from wordweight.sheet import names_after

_LONGEST_KIND = 12
_LETTERS = "abcdefghijklmnopqrstuvwxyz"

# What stands in front of the three lines of an entry.
_MARKS = (">", "=", "#")


def write_log(entries):
    """Returns the text of a list of entries; raises Malformed if an item is none that can be written."""
    return "".join([_entry_text(entry) for entry in entries])


def _entry_text(entry):
    if not isinstance(entry, tuple) or len(entry) != 2 or not isinstance(entry[1], Reply):
        raise Malformed("an entry is a pair of a line and a reply")
    line, reply = entry
    if not _is_one_line(line) or not _is_kind(reply.kind) or not _is_one_line(reply.text):
        raise Malformed("the lines, kinds and texts of entries are strings without a line feed")
    if not isinstance(reply.data, tuple):
        raise Malformed("the data of a reply are a tuple")
    return f"> {line}\n= {reply.kind} {reply.text}\n# {written(packed(reply.data))}\n"


def _is_one_line(value):
    return isinstance(value, str) and "\n" not in value


def _is_kind(value):
    """Returns True if the value is a string of 1 to 12 small letters."""
    return isinstance(value, str) and 1 <= len(value) <= _LONGEST_KIND and value.strip(_LETTERS) == ""


def read_log(text):
    """Returns the list of the entries of a text; raises NoText with the number of the first line that is wrong."""
    if not isinstance(text, str):
        raise NoText(0)
    # Behind the last line feed there is nothing, unless the text ends too early.
    *lines, rest = text.split("\n")
    worths = [_worth(line, at) for at, line in enumerate(lines)]
    if rest != "" or len(lines) % len(_MARKS) != 0:
        raise NoText(len(lines))
    found = []
    for at in range(0, len(lines), len(_MARKS)):
        line, (kind, told), data = worths[at:at + len(_MARKS)]
        found.append((line, Reply(kind, told, data)))
    return found


def _worth(line, at):
    """Returns what a line of a log says at its place; raises NoText(at) if it does not have the form."""
    mark = _MARKS[at % len(_MARKS)]
    if not line.startswith(mark + " "):
        raise NoText(at)
    told = line[2:]
    if mark == "=":
        kind, space, text = told.partition(" ")
        if space == "" or not _is_kind(kind):
            raise NoText(at)
        return (kind, text)
    return told if mark == ">" else _data(told, at)


def _data(text, at):
    """Returns the tuple with this text; raises NoText(at) if there is none."""
    try:
        found = unpacked(read_data(text))
    except (Malformed, NoText):
        raise NoText(at) from None
    if not isinstance(found, tuple):
        raise NoText(at)
    return found


def first_wrong(alphabet, entries):
    """Returns the index of the first entry that is not right over the definitions before it, or -1."""
    names = {}
    for at, entry in enumerate(entries):
        if not is_right(alphabet, names, entry):
            return at
        names = names_after(alphabet, names, entry[0])
    return -1

"""Replies to lines of worksheets, and which replies are right."""
from wordweight.build import build
from wordweight.checker import takes_agreement, takes_least
from wordweight.deeds import hadamard
from wordweight.differ import agree, compare
from wordweight.errors import NoText, Refused
from wordweight.expression import Expression
from wordweight.forms import least_form
from wordweight.lengths import length_quotient
from wordweight.machine import Machine
from wordweight.sheet import machine_text, plain_text, read_line
from wordweight.subsets import counting, least_machine, unambiguous
from wordweight.table import show_least
from wordweight.text import read, show
from wordweight.unbuild import unbuild


class Reply:
    """A reply: its kind and its text, and the data that they tell of."""

    def __init__(self, kind, text="", data=()):
        self.kind = kind
        self.text = text
        self.data = data

    def __eq__(self, other):
        return (isinstance(other, Reply) and self.kind == other.kind and self.text == other.text
                and self.data == other.data)


def reply_to(alphabet, names, line):
    """Returns the reply to a line over the definitions; a refusal is a reply, too."""
    try:
        told = read_line(alphabet, names, line)
        return _reply(told, _machines(alphabet, told))
    except NoText as wrong:
        return Reply("error", f"text {wrong.at}")
    except Refused as why:
        return Reply("error", f"refused {why.reason}")


def _machines(alphabet, told):
    """Returns the machines of the expressions of a line that has been read, from the left to the right."""
    return [build(part, alphabet) for part in told if isinstance(part, Expression)]


def _reply(told, machines):
    """Returns the reply to a line that has been read, with the machines of its expressions."""
    command = told[0]
    if command == "weight":
        q = machines[0].weight(told[2])
        return Reply("number", str(q), (q,))
    if command == "least":
        least = least_form(machines[0])
        return Reply("machine", machine_text(least), (least, show_least(least)))
    if command == "compare":
        kind, found = compare(machines[0], machines[1])
        return Reply("agree", "agree", (found,)) if kind == "agree" else Reply("differ", _word(found), (found,))
    if command == "lengths":
        p, q = length_quotient(machines[0])
        return Reply("quotient", f"{p} / {q}", (p, q))
    if command == "write":
        return Reply("expression", show(unbuild(least_form(machines[0]))))
    if command == "accept":
        return Reply("answer", "yes" if told[2] in told[1] else "no")
    if command == "state":
        return Reply("plain", plain_text(least_machine(told[1])))
    if command == "once":
        kind, found = unambiguous(told[1])
        return Reply("paper", "once", (found,)) if kind == "paper" else Reply("twice", _word(found), (found,))
    return Reply("done")


def _word(word):
    """Returns the text of a word."""
    return word if word != "" else "-"


def is_right(alphabet, names, entry):
    """Returns True if a value is an entry, a pair of a line and a reply, that is right over the definitions."""
    if not isinstance(entry, tuple) or len(entry) != 2 or not isinstance(entry[1], Reply):
        return False
    line, reply = entry
    return _is_shown(alphabet, names, line, reply) or reply == reply_to(alphabet, names, line)


def _is_shown(alphabet, names, line, reply):
    """Returns True if the reply, which may be another one than that of reply_to, has what shows that it is right."""
    try:
        told = read_line(alphabet, names, line)
        machines = _machines(alphabet, told)
    except (NoText, Refused):
        return False
    if told[0] == "least":
        return _shows_least(machines[0], reply)
    if told[0] == "compare":
        return _has_paper(reply, "agree", "agree") and takes_agreement(machines[0], machines[1], reply.data[0])
    if told[0] == "once":
        counter = counting(told[1])
        return _has_paper(reply, "paper", "once") and takes_agreement(
            counter, hadamard(counter, counter), reply.data[0])
    return told[0] == "write" and _shows_series(machines[0], reply)


def _has_paper(reply, kind, text):
    """Returns True if the reply has the kind, the text, and data of one item."""
    return reply.kind == kind and reply.text == text and isinstance(reply.data, tuple) and len(reply.data) == 1


def _shows_least(machine, reply):
    """Returns True if the reply has the least form of the series of the machine, and a paper of its leastness."""
    if reply.kind != "machine" or not isinstance(reply.data, tuple) or len(reply.data) != 2:
        return False
    least, paper = reply.data
    if not isinstance(least, Machine) or least.alphabet != machine.alphabet:
        return False
    if reply.text != machine_text(least) or not takes_least(least, paper) or len(paper[1]) != least.size():
        return False
    return least == least_form(least) and agree(least, machine)


def _shows_series(machine, reply):
    """Returns True if the reply has the text of an expression of the same series as the machine."""
    if reply.kind != "expression" or reply.data != ():
        return False
    try:
        e = read(reply.text)
        other = build(e, machine.alphabet)
    except (NoText, Refused):
        return False
    return show(e) == reply.text and agree(other, machine)

"""The console: it keeps definitions and entries."""
from wordweight.errors import Refused
from wordweight.log import write_log
from wordweight.replies import reply_to
from wordweight.sheet import names_after
from wordweight.words import Alphabet


class Console:
    """A console over an alphabet, into which at most so many lines may be entered."""

    def __init__(self, letters, *, most=1000):
        self._alphabet = Alphabet(letters)
        self._most = most
        self._entries = []
        self._names = {}

    def __len__(self):
        return len(self._entries)

    def __iter__(self):
        return iter(self._entries)

    def enter(self, line):
        """Enters a line and returns the reply; raises Refused("lines") if there are as many lines as there may be."""
        if len(self._entries) >= self._most:
            raise Refused("lines")
        reply = reply_to(self._alphabet, self._names, line)
        self._entries.append((line, reply))
        self._names = names_after(self._alphabet, self._names, line)
        return reply

    def names(self):
        """Returns a new dict from the defined names to their full texts."""
        return dict(self._names)

    def log(self):
        """Returns the written form of the entries."""
        return write_log(self._entries)

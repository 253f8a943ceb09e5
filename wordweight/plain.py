"""Plain machines, without weights: they accept words, and count the runs on them."""
from wordweight.errors import Malformed, NoText
from wordweight.ratio import digits, from_digits, is_digits, is_integer
from wordweight.walks import merged, walked

_DIGITS = "0123456789"
_MOST_READ = 1000


class Plain:
    """A plain machine: its alphabet, its states (how many), its starts, ends and moves in ascending order."""

    def __init__(self, alphabet, size, *, starts=(0,), ends=(), moves=()):
        if not is_integer(size) or size < 0:
            raise Malformed("the size of a plain machine is an integer from 0 on")
        self.alphabet = alphabet
        self.states = size
        self.starts = _ascending(starts, size) if size > 0 else ()
        self.ends = _ascending(ends, size)
        self.moves = _ascending_moves(moves, size, alphabet)
        self._marked = {i: True for i in self.ends}
        leads = {}
        for i, letter, j in self.moves:
            leads.setdefault((i, letter), []).append(j)
        self._leads = leads

    def __len__(self):
        return len(range(self.states))

    def __contains__(self, x):
        if x not in self.alphabet:
            return False
        states = self.starts
        for letter in x:
            states = self.after(states, letter)
        return self.accepts(states)

    def __eq__(self, other):
        return (isinstance(other, Plain) and self.alphabet == other.alphabet and self.states == other.states
                and self.starts == other.starts and self.ends == other.ends and self.moves == other.moves)

    def __str__(self):
        moves = [f"{digits(i)}{letter}{digits(j)}" for i, letter, j in self.moves]
        return "; ".join([digits(self.states), _listed(self.starts), _listed(self.ends), " ".join(moves)])

    def after(self, states, letter):
        """Returns the states, ascending, to which moves with the letter lead from one of the states."""
        return tuple(sorted({j for i in states for j in self._leads.get((i, letter), [])}))

    def accepts(self, states):
        """Returns True if one of the states is an end."""
        return any([i in self._marked for i in states])

    def runs(self, word):
        """Returns the number of runs on a word, 0 for a value that is no word over the alphabet."""
        if word not in self.alphabet:
            return 0
        ways = {i: 1 for i in self.starts}
        for letter in word:
            found = {}
            for i, many in ways.items():
                for j in self._leads.get((i, letter), []):
                    found[j] = found.get(j, 0) + many
            ways = found
        return sum([ways.get(i, 0) for i in self.ends])

    def is_determined(self):
        """Returns True if there is one start, and one move for each state and letter."""
        filled = len(self.moves) == self.states * len(self.alphabet)
        return len(self.starts) == 1 and filled and len(self._leads) == len(self.moves)

    def joined(self, b):
        """Returns the least determined machine for the words that at least one of both accepts."""
        return _combined(self, b, ((True, True), (True, False), (False, True)))

    def common(self, b):
        """Returns the least determined machine for the words that both accept."""
        return _combined(self, b, ((True, True),))

    def without(self, b):
        """Returns the least determined machine for the words that this one accepts and b does not."""
        return _combined(self, b, ((True, False),))

    def complement(self):
        """Returns the least determined machine for the words that this one does not accept."""
        rows, ends = least_rows(self)
        return determined(self.alphabet, rows, [not end for end in ends])

    def turned(self):
        """Returns the machine for the reversed words."""
        moves = [(j, letter, i) for i, letter, j in self.moves]
        return Plain(self.alphabet, self.states, starts=self.ends, ends=self.starts, moves=moves)

    def words(self, most):
        """Yields the accepted words of at most most letters, in shortlex order."""
        moves = self._reached_moves()
        # ways[k] has the states from which some word of the length k leads to an end: no other ones are gone on from.
        ways = [{i: True for i in self.ends if i in moves}]
        while len(ways) <= most + 1 and ways[-1]:
            length = len(ways) - 1
            waiting = [("", self.starts)]
            while waiting:
                word, states = waiting.pop()
                if any([i in ways[length - len(word)] for i in states]):
                    if len(word) == length:
                        yield word
                    else:
                        for letter in reversed(self.alphabet.letters):
                            waiting.append((word + letter, self.after(states, letter)))
            last = ways[-1]
            ways.append({i: True for i, nexts in moves.items() if any([j in last for j in nexts])})

    def _reached_moves(self):
        """Returns a dict from the states that some word leads to, to the states to which moves lead from them."""
        found = {}
        waiting = list(self.starts)
        while waiting:
            i = waiting.pop()
            if i not in found:
                found[i] = [j for letter in self.alphabet for j in self._leads.get((i, letter), [])]
                waiting.extend(found[i])
        return found


def _ascending(states, size):
    """Returns the states in ascending order, each once; raises Malformed if one is not below the size."""
    if not all([_is_state(i, size) for i in states]):
        raise Malformed("the states of a plain machine are the integers from 0 on below its size")
    return tuple(sorted(set(states)))


def _ascending_moves(moves, size, alphabet):
    """Returns the moves in ascending order, each once; raises Malformed if one is none."""
    if not all([_is_move(move, size, alphabet) for move in moves]):
        raise Malformed("a move of a plain machine is a state, a letter of its alphabet, and a state")
    places = sorted({(i, alphabet.index(letter), j) for i, letter, j in moves})
    return tuple([(i, alphabet.letters[at], j) for i, at, j in places])


def _is_state(i, size):
    return is_integer(i) and 0 <= i < size


def _is_move(move, size, alphabet):
    if not isinstance(move, (tuple, list)) or len(move) != 3:
        return False
    letter = move[1]
    return _is_state(move[0], size) and _is_state(move[2], size) and letter in alphabet and len(letter) == 1


def _listed(states):
    return " ".join([digits(i) for i in states])


def _combined(a, b, wanted):
    """Returns the least determined machine for the words of which the pair (a accepts, b accepts) is a wanted one."""
    if a.alphabet != b.alphabet:
        raise Malformed("both plain machines need the same alphabet")
    first, first_ends = least_rows(a)
    second, second_ends = least_rows(b)
    pairs, rows = walked((0, 0), lambda pair: list(zip(first[pair[0]], second[pair[1]])))
    rows, ends = merged(rows, [(first_ends[i], second_ends[j]) in wanted for i, j in pairs])
    return determined(a.alphabet, rows, ends)


def subset_rows(a):
    """Returns the rows of the walk over the sets of states, and for each set whether it holds an end."""
    sets, rows = walked(a.starts, lambda states: [a.after(states, letter) for letter in a.alphabet])
    return (rows, [a.accepts(states) for states in sets])


def least_rows(a):
    """Returns the rows and ends of the least determined machine."""
    rows, ends = subset_rows(a)
    return merged(rows, ends)


def determined(alphabet, rows, ends):
    """Returns the determined machine that starts at 0, from its rows (one state for each letter) and its ends."""
    moves = [(i, letter, j) for i, row in enumerate(rows) for letter, j in zip(alphabet, row)]
    return Plain(alphabet, len(rows), ends=[i for i, end in enumerate(ends) if end], moves=moves)


def read_plain(alphabet, text):
    """Returns the plain machine with this text; raises NoText(0) if there is none, or if its size is above 1000."""
    if not isinstance(text, str):
        raise NoText(0)
    parts = text.split("; ")
    if len(parts) != 4:
        raise NoText(0)
    size = _number(parts[0])
    if size > _MOST_READ:
        raise NoText(0)
    starts, ends = [[_number(word) for word in _split(part)] for part in parts[1:3]]
    moves = [_move(word) for word in _split(parts[3])]
    try:
        found = Plain(alphabet, size, starts=starts, ends=ends, moves=moves)
    except Malformed:
        raise NoText(0) from None
    # What is out of order, twice, or has zeros in front is not given back when the machine is written.
    if str(found) != text:
        raise NoText(0)
    return found


def _split(part):
    return part.split(" ") if part != "" else []


def _number(word):
    """Returns the number with these digits; raises NoText(0) if there is none."""
    if not is_digits(word):
        raise NoText(0)
    return from_digits(word)


def _move(word):
    """Returns the state, the letter and the state of the text of a move; raises NoText(0) if it has not this form."""
    behind = word.lstrip(_DIGITS)
    return (_number(word[:len(word) - len(behind)]), behind[:1], _number(behind[1:]))

"""Alphabets, the order of their words, and the ways to take a word apart."""
from wordweight.errors import Malformed, Refused


class Alphabet:
    """One to four different small letters in a chosen order."""

    def __init__(self, letters):
        if not isinstance(letters, str) or not 1 <= len(letters) <= 4:
            raise Malformed("an alphabet is a string of 1 to 4 letters")
        if not all(["a" <= letter <= "z" for letter in letters]):
            raise Malformed("the letters of an alphabet are small letters from a to z")
        if len(set(letters)) < len(letters):
            raise Malformed("the letters of an alphabet are different")
        self.letters = letters

    def __len__(self):
        return len(self.letters)

    def __iter__(self):
        return iter(self.letters)

    def __contains__(self, x):
        return isinstance(x, str) and all([letter in self.letters for letter in x])

    def __eq__(self, other):
        return isinstance(other, Alphabet) and self.letters == other.letters

    def index(self, letter):
        """Returns the index of a letter; raises Refused("letter") for every other value."""
        if not isinstance(letter, str) or len(letter) != 1 or letter not in self.letters:
            raise Refused("letter")
        return self.letters.find(letter)

    def compare(self, u, v):
        """Returns -1, 0 or 1 if the word u is before, equal to or behind the word v."""
        if len(u) != len(v):
            return -1 if len(u) < len(v) else 1
        for x, y in zip(u, v):
            if x != y:
                return -1 if self.index(x) < self.index(y) else 1
        return 0

    def rank(self, word):
        """Returns the number of words before the word."""
        found = 0
        for letter in word:
            found = found * len(self.letters) + self.index(letter) + 1
        return found

    def word_at(self, rank):
        """Returns the word with this rank, the inverse of rank."""
        backwards = []
        rest = rank
        while rest > 0:
            # A word is a number whose digits go from 1 to the number of letters; less 1, they are indexes.
            rest = rest - 1
            backwards.append(self.letters[rest % len(self.letters)])
            rest = rest // len(self.letters)
        return "".join(reversed(backwards))

    def first_at(self, length):
        """Returns the first word of a length."""
        return self.letters[0] * length

    def words(self, most):
        """Yields all words of length at most most, in their order."""
        rank = 0
        word = ""
        while len(word) <= most:
            yield word
            rank = rank + 1
            word = self.word_at(rank)


def cuts(word):
    """Yields the pairs of words whose concatenation is the word, the shortest first part first."""
    for at in range(len(word) + 1):
        yield (word[:at], word[at:])


def divisions(word):
    """Returns the list of the divisions, those with the longest first parts first."""
    # Suffixes are divided before the longer ones that need them: behind[k] has those of the last k letters.
    behind = [[()]]
    for length in range(1, len(word) + 1):
        tail = word[len(word) - length:]
        behind.append([(tail[:at], *rest) for at in range(length, 0, -1) for rest in behind[length - at]])
    return behind[-1]


def sortings(word):
    """Returns the list of the sortings, in the order of the sums of 2^i over the indexes i of the first word."""
    found = [("", "")]
    for letter in word:
        # The last letter counts more than all before it together: it stays behind in the first half.
        found = [(u, v + letter) for u, v in found] + [(u + letter, v) for u, v in found]
    return found

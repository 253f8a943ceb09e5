import unittest
from itertools import combinations, permutations, product

from samples import VALUES
from wordweight.errors import Malformed, Refused
from wordweight.words import Alphabet, cuts, divisions, sortings

ALPHABETS = ("a", "z", "ab", "ba", "abc", "cab", "zyx", "abcd", "dbca", "mqaz")


def words_by_length(letters, most):
    """All words in their order, from the definition: by lengths, then letter by letter."""
    return ["".join(word) for length in range(most + 1) for word in product(letters, repeat=length)]


class Alphabets(unittest.TestCase):
    def test_any_order_of_letters(self):
        for size in (1, 2, 3, 4):
            for letters in permutations("adz" + "m", size):
                text = "".join(letters)
                self.assertEqual(Alphabet(text).letters, text)
                self.assertEqual(list(Alphabet(text)), list(letters))
                self.assertEqual(len(Alphabet(text)), size)

    def test_malformed_strings(self):
        for letters in ("", "abcde", "aa", "aba", "abca", "abcb", "A", "aB", "Z", "1", "a1", " ", "a ", " a", "-", "a-b",
                        "\u00e4", "a\u00df", "`", "{", "a{", "`a", "\n", "a\n", "\uff41", "abcdefghijklmnopqrstuvwxyz"):
            with self.assertRaises(Malformed, msg=repr(letters)):
                Alphabet(letters)

    def test_malformed_values(self):
        for value in VALUES + (("a", "b"), ["a", "b"], ("ab",), Alphabet("ab")):
            if not isinstance(value, str):
                with self.assertRaises(Malformed, msg=repr(value)):
                    Alphabet(value)

    def test_words_in_the_alphabet(self):
        alphabet = Alphabet("ba")
        for word in words_by_length("ab", 4) + ["ab" * 5000]:
            self.assertIs(word in alphabet, True)
        for word in ("c", "ac", "ca", "acb", "A", "a ", " ", "-", "1", "a\n", "ab" * 500 + "c", "c" + "ab" * 500):
            self.assertIs(word in alphabet, False)

    def test_values_in_the_alphabet(self):
        for letters in ("ab", "a", "xyz"):
            alphabet = Alphabet(letters)
            for value in VALUES:
                expected = isinstance(value, str) and set(value) <= set(letters)
                self.assertIs(value in alphabet, expected, repr(value))

    def test_equality(self):
        for one in ALPHABETS:
            for other in ALPHABETS:
                self.assertIs(Alphabet(one) == Alphabet(other), one == other)
                self.assertIs(Alphabet(one) != Alphabet(other), one != other)

    def test_equality_with_values_of_other_kinds(self):
        for value in VALUES:
            expected = isinstance(value, Alphabet) and value.letters == "ab"
            self.assertIs(Alphabet("ab") == value, expected)
            self.assertIs(value == Alphabet("ab"), expected)
        self.assertIs(Alphabet("a") == "a", False)

    def test_index(self):
        for letters in ALPHABETS:
            self.assertEqual([Alphabet(letters).index(letter) for letter in letters], list(range(len(letters))))

    def test_index_of_no_letter(self):
        for letters in ("ab", "ba", "b", "dcba"):
            for value in VALUES + ("c" if "c" not in letters else "e", "bb", "abc", "dc", "dcba"):
                if not (isinstance(value, str) and len(value) == 1 and value in letters):
                    with self.assertRaises(Refused, msg=repr(value)) as caught:
                        Alphabet(letters).index(value)
                    self.assertEqual(caught.exception.reason, "letter")


class OrderOfWords(unittest.TestCase):
    def test_words(self):
        for letters in ALPHABETS:
            for most in range(5):
                self.assertEqual(list(Alphabet(letters).words(most)), words_by_length(letters, most))

    def test_words_of_a_negative_number(self):
        for letters in ALPHABETS:
            for most in (-1, -2, -100):
                self.assertEqual(list(Alphabet(letters).words(most)), [])

    def test_words_of_the_length_0(self):
        self.assertEqual(list(Alphabet("ba").words(0)), [""])

    def test_words_is_a_generator(self):
        found = Alphabet("ba").words(10 ** 9)
        self.assertIs(iter(found), found)
        self.assertEqual([next(found) for _ in range(5)], ["", "b", "a", "bb", "ba"])

    def test_rank_and_word_at(self):
        for letters in ALPHABETS:
            alphabet = Alphabet(letters)
            for rank, word in enumerate(words_by_length(letters, 5)):
                self.assertEqual(alphabet.rank(word), rank)
                self.assertEqual(alphabet.word_at(rank), word)

    def test_rank_and_word_at_of_long_words(self):
        for letters in ALPHABETS:
            alphabet = Alphabet(letters)
            for length in (50, 333, 2000):
                first, last = letters[0] * length, letters[-1] * length
                before = sum(len(letters) ** k for k in range(length))
                self.assertEqual(alphabet.rank(first), before)
                self.assertEqual(alphabet.rank(last), before + len(letters) ** length - 1)
                for word in (first, last, letters * (length // len(letters)), last + first, first + last):
                    self.assertEqual(alphabet.word_at(alphabet.rank(word)), word)
        for rank in (10 ** 30, 10 ** 100 + 1, 7 ** 500):
            self.assertEqual(Alphabet("cab").rank(Alphabet("cab").word_at(rank)), rank)

    def test_compare(self):
        for letters in ("a", "ab", "ba", "cab"):
            alphabet = Alphabet(letters)
            words = words_by_length(letters, 3)
            for i, u in enumerate(words):
                for j, v in enumerate(words):
                    self.assertEqual(alphabet.compare(u, v), (i > j) - (i < j), (letters, u, v))

    def test_compare_of_long_words(self):
        alphabet = Alphabet("ba")
        many = "ab" * 5000
        self.assertEqual(alphabet.compare(many, many), 0)
        self.assertEqual(alphabet.compare(many + "b", many + "a"), -1)
        self.assertEqual(alphabet.compare(many + "ab", many + "ba"), 1)
        self.assertEqual(alphabet.compare(many, many + "b"), -1)
        self.assertEqual(alphabet.compare(many + "b", many), 1)
        self.assertEqual(alphabet.compare("a" * 99, "b" * 100), -1)

    def test_first_at(self):
        for letters in ALPHABETS:
            for length in (0, 1, 2, 7, 100):
                self.assertEqual(Alphabet(letters).first_at(length), letters[0] * length)
        self.assertEqual(Alphabet("ba").first_at(3), "bbb")


class PartsOfWords(unittest.TestCase):
    def test_cuts(self):
        self.assertEqual(list(cuts("")), [("", "")])
        self.assertEqual(list(cuts("a")), [("", "a"), ("a", "")])
        self.assertEqual(list(cuts("aab")), [("", "aab"), ("a", "ab"), ("aa", "b"), ("aab", "")])
        found = cuts("ab")
        self.assertIs(iter(found), found)

    def test_cuts_of_longer_words(self):
        for word in ("abcabc", "aaaaaaa", "z" * 50):
            found = list(cuts(word))
            self.assertEqual([len(u) for u, _ in found], list(range(len(word) + 1)))
            self.assertTrue(all(u + v == word and type(pair) is tuple for pair in found for u, v in [pair]))

    def test_divisions(self):
        self.assertEqual(divisions(""), [()])
        self.assertEqual(divisions("a"), [("a",)])
        self.assertEqual(divisions("aa"), [("aa",), ("a", "a")])
        self.assertEqual(divisions("abc"), [("abc",), ("ab", "c"), ("a", "bc"), ("a", "b", "c")])

    def test_divisions_of_longer_words(self):
        for word in ("abcd", "aaaa", "abcde", "aabbaabb", "abcdefghijkl"):
            found = divisions(word)
            self.assertIs(type(found), list)
            expected = []
            for many in range(len(word)):
                for places in combinations(range(1, len(word)), many):
                    ends = [0, *places, len(word)]
                    expected.append(tuple(word[i:j] for i, j in zip(ends, ends[1:])))
            expected.sort(key=lambda parts: [-len(part) for part in parts])
            self.assertEqual(found, expected)

    def test_sortings(self):
        self.assertEqual(sortings(""), [("", "")])
        self.assertEqual(sortings("a"), [("", "a"), ("a", "")])
        self.assertEqual(sortings("ab"), [("", "ab"), ("a", "b"), ("b", "a"), ("ab", "")])
        self.assertEqual(sortings("aa"), [("", "aa"), ("a", "a"), ("a", "a"), ("aa", "")])

    def test_sortings_of_longer_words(self):
        for word in ("abc", "aab", "aaaa", "abcde", "abcabcabca"):
            expected = []
            for mask in range(2 ** len(word)):
                u = "".join(x for i, x in enumerate(word) if mask >> i & 1)
                v = "".join(x for i, x in enumerate(word) if not mask >> i & 1)
                expected.append((u, v))
            found = sortings(word)
            self.assertIs(type(found), list)
            self.assertEqual(found, expected)

    def test_equal_arguments_give_equal_results(self):
        alphabet = Alphabet("cab")
        self.assertEqual(list(alphabet.words(3)), list(alphabet.words(3)))
        first = divisions("abc")
        first.clear()
        self.assertEqual(len(divisions("abc")), 4)
        sortings("abc").clear()
        self.assertEqual(len(sortings("abc")), 8)
        self.assertEqual(alphabet.letters, "cab")

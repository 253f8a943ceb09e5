import unittest
from itertools import permutations

from samples import VALUES, Choices, all_words, runs_of
from wordweight.errors import Malformed, NoText
from wordweight.plain import Plain, read_plain
from wordweight.subsets import least_machine
from wordweight.words import Alphabet

AB = Alphabet("ab")
EXAMPLE = Plain(AB, 2, starts=(0,), ends=(1,), moves=((0, "a", 1), (1, "b", 1)))


def machines(seed=141):
    """Plain machines of small sizes, with empty parts among them."""
    choices = Choices(seed)
    for letters in ("a", "ab", "ba", "cab"):
        alphabet = Alphabet(letters)
        yield Plain(alphabet, 0)
        yield Plain(alphabet, 1)
        yield Plain(alphabet, 1, ends=(0,))
        yield Plain(alphabet, 2, starts=(), ends=(0, 1), moves=[(0, letters[0], 1)])
        yield Plain(alphabet, 3, starts=(0, 2), ends=(), moves=[(0, letters[-1], 0)])
        for size in (1, 2, 2, 3, 3, 4):
            yield choices.plain(letters, size)
            yield choices.determined(letters, size)
    yield EXAMPLE


def over(alphabet):
    return [a for a in machines() if a.alphabet == alphabet]


def fields(a):
    return (a.alphabet.letters, a.states, a.starts, a.ends, a.moves)


class Making(unittest.TestCase):
    def test_fields(self):
        a = Plain(AB, 3, starts=[2, 0], ends=(1,), moves=[[2, "b", 0], (0, "a", 1)])
        self.assertIs(a.alphabet, AB)
        self.assertEqual(fields(a), ("ab", 3, (0, 2), (1,), ((0, "a", 1), (2, "b", 0))))
        for parts in (a.starts, a.ends, a.moves, *a.moves):
            self.assertIs(type(parts), tuple)

    def test_default_arguments(self):
        for size in (1, 2, 7):
            self.assertEqual(fields(Plain(AB, size)), ("ab", size, (0,), (), ()))
        self.assertEqual(fields(Plain(AB, 2, ends=(1,))), ("ab", 2, (0,), (1,), ()))
        self.assertEqual(fields(Plain(AB, 2, starts=())), ("ab", 2, (), (), ()))

    def test_any_order_and_twice(self):
        moves = [(0, "b", 0), (0, "b", 1), (0, "a", 1), (1, "a", 0)]
        for letters, ordered in (("ab", [2, 0, 1, 3]), ("ba", [0, 1, 2, 3])):
            for some in permutations(moves):
                for kind in (list, tuple):
                    a = Plain(Alphabet(letters), 2, starts=kind((1, 0, 1)), ends=kind((1, 1)),
                              moves=kind([kind(move) for move in some + some[:2]]))
                    self.assertEqual(fields(a), (letters, 2, (0, 1), (1,), tuple(moves[at] for at in ordered)))

    def test_many_states(self):
        a = Plain(Alphabet("ba"), 12, starts=(11, 2, 10), ends=(9, 10),
                  moves=((10, "a", 2), (2, "a", 10), (10, "b", 3), (2, "a", 9)))
        self.assertEqual(a.starts, (2, 10, 11))
        self.assertEqual(a.moves, ((2, "a", 9), (2, "a", 10), (10, "b", 3), (10, "a", 2)))

    def test_the_size_0(self):
        for starts in ((0,), (), (0, 0), [3, 1]):
            self.assertEqual(fields(Plain(AB, 0, starts=starts)), ("ab", 0, (), (), ()))
        for told in ({"ends": (0,)}, {"moves": ((0, "a", 0),)}):
            with self.assertRaises(Malformed):
                Plain(AB, 0, **told)

    def test_arguments_stay(self):
        starts, ends, moves = [1, 0], [1], [[1, "a", 0], (0, "b", 1)]
        a = Plain(AB, 2, starts=starts, ends=ends, moves=moves)
        self.assertEqual((starts, ends, moves), ([1, 0], [1], [[1, "a", 0], (0, "b", 1)]))
        starts.append(5)
        moves[0][0] = 0
        moves.clear()
        self.assertEqual(fields(a), ("ab", 2, (0, 1), (1,), ((0, "b", 1), (1, "a", 0))))

    def test_sizes_that_are_none(self):
        for size in (-1, -10 ** 30, True, False, None, "2", "", (2,), [2], AB, ()):
            with self.assertRaises(Malformed):
                Plain(AB, size)
            with self.assertRaises(Malformed):
                Plain(AB, size, starts=())

    def test_states_that_are_none(self):
        for state in (-1, 2, 3, 10 ** 30, True, False, None, "0", "", (0,), [0], AB):
            for told in ({"starts": (state,)}, {"starts": [0, state]}, {"ends": (1, state)}, {"ends": [state]},
                         {"moves": [(state, "a", 0)]}, {"moves": ((0, "a", 1), (1, "a", state))},
                         {"moves": [[state, "b", state]]}):
                with self.assertRaises(Malformed):
                    Plain(AB, 2, **told)

    def test_letters_that_are_none(self):
        for letter in ("", "c", "A", "ab", "aa", "ba", " ", 0, True, None, ("a",), ["a"], AB):
            for moves in ([(0, letter, 0)], ((0, "a", 1), (1, letter, 1)), [[1, letter, 0]]):
                with self.assertRaises(Malformed):
                    Plain(AB, 2, moves=moves)

    def test_moves_that_are_none(self):
        for move in ((), (0,), (0, "a"), (0, "a", 1, 1), (0, "a", 1, "b"), [0, "a"], [], "0a1", "", 5, None,
                     ("a", 0, 1), (0, 1, "a"), ((0, "a", 1),)):
            for moves in ([move], ((0, "a", 1), move)):
                with self.assertRaises(Malformed):
                    Plain(AB, 2, moves=moves)

    def test_large_sizes(self):
        size = 10 ** 12
        a = Plain(AB, size, starts=(size - 1,), ends=(5,), moves=((size - 1, "a", 7), (7, "b", 5)))
        self.assertTrue("ab" in a)
        self.assertFalse("a" in a)
        self.assertEqual(len(a), size)
        self.assertEqual(list(a.words(9)), ["ab"])
        self.assertEqual(len(least_machine(a)), 4)


class Accepting(unittest.TestCase):
    def test_runs(self):
        for a in machines():
            for word in all_words(a.alphabet.letters, 4 if len(a.alphabet) < 3 else 3):
                found = a.runs(word)
                self.assertIs(type(found), int)
                self.assertEqual(found, len(runs_of(a, word)))
                self.assertIs(word in a, found > 0)
                self.assertIs(word not in a, found == 0)

    def test_values_that_are_no_words(self):
        for a in machines():
            for value in VALUES + ("abd", "ac!", "a b", ("a",), ["a", "b"], "A", "ab\n", b"a"):
                if not isinstance(value, str) or any(letter not in a.alphabet.letters for letter in value):
                    self.assertIs(value in a, False)
                    self.assertIs(type(a.runs(value)), int)
                    self.assertEqual(a.runs(value), 0)

    def test_the_empty_word(self):
        self.assertTrue("" in Plain(AB, 1, ends=(0,)))
        self.assertFalse("" in Plain(AB, 1))
        self.assertFalse("" in Plain(AB, 0))
        self.assertEqual(Plain(AB, 3, starts=(0, 1, 2), ends=(1, 2)).runs(""), 2)

    def test_long_words(self):
        two = Plain(AB, 1, ends=(0,), moves=((0, "a", 0),)), Plain(AB, 2, starts=(0, 1), ends=(0, 1), moves=[
            (i, "a", j) for i in (0, 1) for j in (0, 1)])
        self.assertEqual(two[0].runs("a" * 3000), 1)
        self.assertEqual(two[1].runs("a" * 3000), 2 ** 3001)
        self.assertTrue("a" * 3000 in two[1])
        self.assertFalse("a" * 3000 + "b" in two[1])

    def test_length(self):
        for a in machines():
            self.assertEqual(len(a), a.states)
        self.assertEqual([len(Plain(AB, size)) for size in range(5)], list(range(5)))


class Equality(unittest.TestCase):
    def test_of_machines(self):
        every = list(machines())
        for a in every:
            for b in every:
                self.assertIs(a == b, fields(a) == fields(b))
                self.assertIs(a != b, fields(a) != fields(b))

    def test_each_field_counts(self):
        a = Plain(AB, 3, starts=(0, 1), ends=(1,), moves=((0, "a", 1),))
        self.assertTrue(a == Plain(AB, 3, starts=[1, 0, 0], ends=[1], moves=[[0, "a", 1], [0, "a", 1]]))
        for b in (Plain(Alphabet("ba"), 3, starts=(0, 1), ends=(1,), moves=((0, "a", 1),)),
                  Plain(AB, 2, starts=(0, 1), ends=(1,), moves=((0, "a", 1),)),
                  Plain(AB, 3, starts=(0,), ends=(1,), moves=((0, "a", 1),)),
                  Plain(AB, 3, starts=(0, 1), ends=(), moves=((0, "a", 1),)),
                  Plain(AB, 3, starts=(0, 1), ends=(1,), moves=((0, "b", 1),)),
                  Plain(AB, 3, starts=(0, 1), ends=(1,))):
            self.assertFalse(a == b)
            self.assertFalse(b == a)

    def test_of_other_values(self):
        for a in (Plain(Alphabet("abc"), 0), Plain(Alphabet("abc"), 1), Plain(Alphabet("abc"), 2, ends=(1,))):
            for value in VALUES + (str(a), fields(a), list(fields(a))):
                self.assertIs(a == value, False)
                self.assertIs(a != value, True)


class Determined(unittest.TestCase):
    def test_by_counting_moves(self):
        found = set()
        for a in machines():
            told = len(a.starts) == 1 and all(
                len([j for i, x, j in a.moves if (i, x) == (state, letter)]) == 1
                for state in range(a.states) for letter in a.alphabet.letters)
            self.assertIs(a.is_determined(), told)
            found.add(told)
        self.assertEqual(found, {True, False})

    def test_as_they_stand(self):
        loops = ((0, "a", 0), (0, "b", 0), (1, "a", 1), (1, "b", 1))
        self.assertTrue(Plain(AB, 2, moves=loops).is_determined())
        self.assertTrue(Plain(AB, 2, starts=(1,), moves=loops).is_determined())
        self.assertFalse(Plain(AB, 2, starts=(0, 1), moves=loops).is_determined())
        self.assertFalse(Plain(AB, 2, starts=(), moves=loops).is_determined())
        self.assertFalse(Plain(AB, 0).is_determined())
        self.assertFalse(Plain(AB, 3, moves=loops).is_determined())
        for at in range(4):
            missing = loops[:at] + loops[at + 1:]
            self.assertFalse(Plain(AB, 2, moves=missing).is_determined())
            i, letter, j = loops[at]
            self.assertFalse(Plain(AB, 2, moves=loops + ((i, letter, 1 - j),)).is_determined())
            # As many moves as there should be, but two of them for one state and letter.
            i, letter, j = loops[(at + 1) % 4]
            self.assertFalse(Plain(AB, 2, moves=missing + ((i, letter, 1 - j),)).is_determined())


class Turned(unittest.TestCase):
    def test_fields_and_words(self):
        for a in machines():
            b = a.turned()
            self.assertIsInstance(b, Plain)
            self.assertEqual((b.alphabet, b.states, b.starts, b.ends), (a.alphabet, a.states, a.ends, a.starts))
            self.assertEqual(set(b.moves), {(j, letter, i) for i, letter, j in a.moves})
            self.assertEqual(b.turned(), a)
            for word in all_words(a.alphabet.letters, 3):
                self.assertEqual(b.runs(word[::-1]), a.runs(word))


class Words(unittest.TestCase):
    def test_all_accepted_ones_in_order(self):
        for a in machines():
            longest = 5 if len(a.alphabet) < 3 else 4
            told = [word for word in all_words(a.alphabet.letters, longest) if runs_of(a, word)]
            self.assertEqual(list(a.words(longest)), told)
            for most in range(-2, longest):
                self.assertEqual(list(a.words(most)), [word for word in told if len(word) <= most])

    def test_it_is_a_generator(self):
        found = Plain(AB, 1, ends=(0,), moves=((0, "a", 0), (0, "b", 0))).words(10 ** 9)
        self.assertEqual([next(found) for _ in range(8)], ["", "a", "b", "aa", "ab", "ba", "bb", "aaa"])

    def test_few_words_are_found_among_many(self):
        chain = [(i, letter, i + 1) for i in range(40) for letter in "ab"]
        self.assertEqual(list(Plain(AB, 41, ends=(40,), moves=chain).words(39)), [])
        self.assertEqual(list(Plain(AB, 41, ends=(40,), moves=[m for m in chain if m[1] == "a"]).words(10 ** 9)),
                         ["a" * 40])
        loops = [(0, "a", 0), (0, "b", 0), (0, "b", 1)] + [(i, "a", i + 1) for i in range(1, 50)]
        found = list(Plain(AB, 51, ends=(50,), moves=loops).words(51))
        self.assertEqual(found, ["b" + "a" * 49, "ab" + "a" * 49, "bb" + "a" * 49])
        # States that no word leads to, and states from which no end is reached, do not count.
        idle = [(0, "a", 1), (2, "a", 2), (2, "b", 1), (0, "b", 3), (3, "a", 3), (3, "b", 3)]
        self.assertEqual(list(Plain(AB, 4, ends=(1,), moves=idle).words(10 ** 9)), ["a"])


class Combined(unittest.TestCase):
    def check(self, found, told, letters, longest):
        """The words that a machine accepts up to a length, and that it is its own least determined machine."""
        self.assertIsInstance(found, Plain)
        self.assertEqual([word for word in all_words(letters, longest) if word in found],
                         [word for word in all_words(letters, longest) if told(word)])
        self.assertTrue(found.is_determined())
        self.assertEqual(least_machine(found), found)

    def test_two_machines(self):
        for letters, longest in (("a", 8), ("ba", 5), ("ab", 4), ("cab", 3)):
            every = over(Alphabet(letters))
            for a in every:
                for b in every:
                    self.check(a.joined(b), lambda w: runs_of(a, w) or runs_of(b, w), letters, longest)
                    self.check(a.common(b), lambda w: runs_of(a, w) and runs_of(b, w), letters, longest)
                    self.check(a.without(b), lambda w: runs_of(a, w) and not runs_of(b, w), letters, longest)

    def test_complement(self):
        for a in machines():
            longest = 5 if len(a.alphabet) < 3 else 4
            self.check(a.complement(), lambda word: not runs_of(a, word), a.alphabet.letters, longest)
            self.assertEqual(a.complement().complement(), least_machine(a))

    def test_as_they_stand(self):
        self.assertEqual(str(EXAMPLE.complement()), "3; 0; 0 2; 0a1 0b2 1a2 1b1 2a2 2b2")
        ends_in_b = Plain(AB, 2, ends=(1,), moves=((0, "a", 0), (0, "b", 0), (0, "b", 1)))
        self.assertEqual(str(EXAMPLE.common(ends_in_b)), "4; 0; 3; 0a1 0b2 1a2 1b3 2a2 2b2 3a2 3b3")
        self.assertEqual(list(EXAMPLE.without(ends_in_b).words(9)), ["a"])
        self.assertEqual(str(EXAMPLE.joined(EXAMPLE.complement())), "1; 0; 0; 0a0 0b0")
        self.assertEqual(str(EXAMPLE.without(EXAMPLE)), "1; 0; ; 0a0 0b0")
        self.assertEqual(str(Plain(AB, 0).complement()), "1; 0; 0; 0a0 0b0")

    def test_unlike_alphabets(self):
        for letters in ("ba", "a", "abc", "ac"):
            b = Plain(Alphabet(letters), 1)
            for one, two in ((EXAMPLE, b), (b, EXAMPLE), (Plain(AB, 0), Plain(Alphabet(letters), 0))):
                for call in (lambda: one.joined(two), lambda: one.common(two), lambda: one.without(two)):
                    with self.assertRaises(Malformed):
                        call()

    def test_arguments_stay(self):
        for a in over(AB):
            before = fields(a)
            for call in (lambda: a.joined(EXAMPLE), lambda: EXAMPLE.common(a), lambda: a.without(EXAMPLE),
                         a.complement, a.turned, lambda: list(a.words(3)), lambda: a.runs("ab"), lambda: str(a)):
                self.assertEqual(call(), call())
            self.assertEqual(fields(a), before)


class Text(unittest.TestCase):
    def test_as_they_stand(self):
        self.assertEqual(str(Plain(AB, 0)), "0; ; ; ")
        self.assertEqual(str(Plain(AB, 1)), "1; 0; ; ")
        self.assertEqual(str(Plain(AB, 2, starts=())), "2; ; ; ")
        self.assertEqual(str(Plain(AB, 2, starts=(), ends=(1, 0))), "2; ; 0 1; ")
        self.assertEqual(str(Plain(Alphabet("ba"), 2, moves=((1, "a", 0), (1, "b", 1)))), "2; 0; ; 1b1 1a0")
        self.assertEqual(str(Plain(AB, 12, starts=(10, 9), ends=(11,), moves=((10, "b", 11), (9, "a", 0)))),
                         "12; 9 10; 11; 9a0 10b11")
        self.assertEqual(str(Plain(AB, 10 ** 5000)), "1" + "0" * 5000 + "; 0; ; ")

    def test_reading_is_the_inverse(self):
        for a in machines():
            self.assertEqual(read_plain(a.alphabet, str(a)), a)
            self.assertEqual(str(read_plain(a.alphabet, str(a))), str(a))

    def test_reading_many_states(self):
        choices = Choices(142)
        for size in (10, 11, 100, 999, 1000):
            moves = [(choices.below(size), choices.of("ab"), choices.below(size)) for _ in range(2 * size)]
            a = Plain(AB, size, starts=range(0, size, 3), ends=range(0, size, 7), moves=moves)
            self.assertEqual(read_plain(AB, str(a)), a)

    def refuses(self, alphabet, text):
        with self.assertRaises(NoText) as caught:
            read_plain(alphabet, text)
        self.assertEqual(caught.exception.at, 0)

    def test_sizes_above_1000(self):
        self.assertEqual(len(read_plain(AB, "1000; ; ; ")), 1000)
        for size in ("1001", "1010", "2000", "10000", "9" * 5000):
            self.refuses(AB, size + "; ; ; ")

    def test_texts_that_are_none(self):
        text = "12; 0 10; 1 11; 0a1 0a11 0b0 10b2"
        self.assertEqual(str(read_plain(AB, text)), text)
        for old, new in (
                ("12;", "012;"), ("12;", "+12;"), ("12;", "-12;"), ("12;", ";"), ("12;", "a;"), ("12;", "11;"),
                ("12;", "1 2;"), ("12;", "1_2;"), ("12;", " 12;"), ("12;", "12 ;"), ("12;", "\u0661\u0662;"),
                ("12;", "12"), ("12; ", ""), ("0 10;", "10 0;"), ("0 10;", "0 0 10;"), ("0 10;", "0 10 10;"),
                ("0 10;", "0 12;"), ("0 10;", "00 10;"), ("0 10;", "0 010;"), ("0 10;", "0  10;"), ("0 10;", "0 10 ;"),
                ("0 10;", " 0 10;"), ("0 10;", "0,10;"), ("0 10;", "0 -1;"), ("0 10;", "-0 10;"), ("0 10;", "0 a;"),
                ("1 11;", "11 1;"), ("1 11;", "1 1;"), ("1 11;", "1 12;"), ("1 11;", "01 11;"), ("1 11;", "1 11"),
                ("0a1 0a11", "0a11 0a1"), ("0a1 0a11", "0a1 0a1 0a11"), ("0a1 0a11", "0a1  0a11"), ("0a1", "0a01"),
                ("0a1", "00a1"), ("0a1", "0a12"), ("0a1", "12a1"), ("0a1", "0c1"), ("0a1", "0A1"), ("0a1", "01"),
                ("0a1", "0a"), ("0a1", "a1"), ("0a1", "a"), ("0a1", "0 a1"), ("0a1", "0aa1"), ("0a1", "0a1a"),
                ("0a1 0a11 0b0", "0b0 0a1 0a11"), ("10b2", "10b2 "), ("10b2", "10b2; "), ("10b2", "10b2; 1"),
                ("0b0 10b2", "10b2 0b0"), ("0a1 0a11 0b0 10b2", "0 1"), ("; ", ";"), ("; ", ";  "), ("; ", ", "),
                ("; ", " ; ")):
            self.assertIn(old, text)
            self.refuses(AB, text.replace(old, new, 1))
        for end in range(len(text)):
            if text[:end] not in ("12; 0 10; 1 11; ", "12; 0 10; 1 11; 0a1", "12; 0 10; 1 11; 0a1 0a11",
                                  "12; 0 10; 1 11; 0a1 0a11 0b0", "12; 0 10; 1 11; 0a1 0a1"):
                self.refuses(AB, text[:end])

    def test_the_order_of_the_alphabet_counts(self):
        text = "1; 0; 0; 0b0 0a0"
        self.assertEqual(str(read_plain(Alphabet("ba"), text)), text)
        self.refuses(AB, text)
        self.refuses(Alphabet("b"), text)
        self.refuses(Alphabet("a"), text)

    def test_the_size_0(self):
        self.assertEqual(read_plain(AB, "0; ; ; "), Plain(AB, 0))
        for text in ("0; 0; ; ", "0; ; 0; ", "0; ; ; 0a0", "0; ; ;", "0; ; ", "0;;;", "", "0", "; ; ; ", "00; ; ; ",
                     "0; ; ; ; ", "-0; ; ; "):
            self.refuses(AB, text)

    def test_each_character_counts(self):
        for text in ("2; 0; 1; 0a1 1b1", "3; 0 1; 0 2; 0a1 0b2 1a2 1b1 2a2 2b2"):
            for at in range(len(text) + 1):
                for new in "0 1;,ab\n":
                    for changed in (text[:at] + new + text[at:], text[:at] + new + text[at + 1:]):
                        try:
                            found = read_plain(AB, changed)
                        except NoText as caught:
                            self.assertEqual(caught.at, 0)
                        else:
                            self.assertEqual(str(found), changed)
                for changed in (text[:at] + text[at + 1:], text[:at] + "\u00e9" + text[at:]):
                    try:
                        self.assertEqual(str(read_plain(AB, changed)), changed)
                    except NoText as caught:
                        self.assertEqual(caught.at, 0)

    def test_values_that_are_no_texts(self):
        for value in VALUES + (EXAMPLE, [str(EXAMPLE)], (str(EXAMPLE),)):
            self.refuses(AB, value)


class Examples(unittest.TestCase):
    def test_of_the_document(self):
        self.assertEqual(str(EXAMPLE), "2; 0; 1; 0a1 1b1")
        self.assertTrue("abb" in EXAMPLE)

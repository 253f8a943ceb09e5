import unittest
from fractions import Fraction

from samples import Choices, all_words, chosen, combination, fraction, matrix, numbers_machine, series, vector
from wordweight.build import build
from wordweight.deeds import (hadamard, left_quotient, power, product, right_quotient, shuffle, star, substitute,
                              word_machine)
from wordweight.forms import is_zero, kept_words, least_form, rank, seen_words
from wordweight.linear import Matrix, identity, nothing
from wordweight.machine import Machine, constant, letter, null
from wordweight.ratio import Ratio
from wordweight.text import read
from wordweight.words import Alphabet

COUNT_OF_A = numbers_machine("ab", (1, 0), (((1, 1), (0, 1)), ((1, 0), (0, 1))), (0, 1))


def samples(seed, many=2):
    """Machines of small sizes over alphabets in several orders, some of them larger than need be."""
    choices = Choices(seed)
    for letters in ("a", "ab", "ba", "cab", "dbca"):
        for size in range(5 if len(letters) < 3 else 4):
            for _ in range(many):
                yield choices.machine(letters, size)
        f, g = choices.machine(letters, 1), choices.machine(letters, 2)
        yield f + f
        yield g - g
        yield f + g.scaled(Ratio(0))
        yield product(f, g)
        yield shuffle(f, f)
        yield hadamard(g, g).transposed()


def columns(machine, words):
    """The columns of words as Fractions."""
    found = []
    for word in words:
        column = [fraction(q) for q in machine.column]
        for a in word[::-1]:
            rows = machine.matrices[machine.alphabet.letters.index(a)].rows
            column = [sum(fraction(q) * x for q, x in zip(row, column)) for row in rows]
        found.append(column)
    return found


def residual(weight, word, behind):
    return [weight(word + v) for v in behind]


def seen_by_definition(machine):
    words = all_words(machine.alphabet.letters, machine.size())
    return tuple(chosen(words, columns(machine, words))[0])


def kept_by_definition(machine):
    """The kept words, their residuals, and the words at which residuals are looked at."""
    # Two residuals of a machine of size n are equal if they agree at the words of less than n letters.
    weight = series(machine)
    words = all_words(machine.alphabet.letters, machine.size() - 1)
    kept, basis = chosen(words, [residual(weight, word, words) for word in words])
    return tuple(kept), basis, words


def least_by_definition(machine):
    weight = series(machine)
    kept, basis, behind = kept_by_definition(machine)
    def multiples(goal):
        return [Ratio(q.numerator, q.denominator) for q in combination(basis, goal)]
    matrices = [Matrix([multiples(residual(weight, u + a, behind)) for u in kept], len(kept))
                for a in machine.alphabet.letters]
    column = [Ratio(weight(u).numerator, weight(u).denominator) for u in kept]
    return Machine(machine.alphabet, [Ratio(1 if k == 0 else 0) for k in range(len(kept))], matrices, column)


class SeenWords(unittest.TestCase):
    def test_by_definition(self):
        for machine in samples(41):
            found = seen_words(machine)
            self.assertIsInstance(found, tuple)
            self.assertEqual(found, seen_by_definition(machine))

    def test_the_order_of_the_alphabet(self):
        both = (((0, 1, 0), (0, 0, 0), (0, 0, 0)), ((0, 0, 1), (0, 0, 0), (0, 0, 0)))
        self.assertEqual(seen_words(numbers_machine("ab", (1, 0, 0), both, (0, 1, 1))), ("", "a"))
        self.assertEqual(seen_words(numbers_machine("ba", (1, 0, 0), both, (0, 1, 1))), ("", "b"))

    def test_a_letter_in_front_comes_first(self):
        # Both ab and ba are candidates: the words are compared from their first letter on.
        m = word_machine(Alphabet("ab"), "ab") + word_machine(Alphabet("ab"), "ba")
        self.assertEqual(seen_words(m), ("", "a", "b", "ab", "ba"))
        m = word_machine(Alphabet("ba"), "ab") + word_machine(Alphabet("ba"), "ba")
        self.assertEqual(seen_words(m), ("", "b", "a", "ba", "ab"))

    def test_they_are_words_of_the_machine_and_not_of_the_series(self):
        m = numbers_machine("a", (0, 0), (((0, 1), (0, 0)),), (0, 1))
        self.assertEqual(seen_words(m), ("", "a"))
        self.assertEqual(kept_words(m), ())

    def test_none(self):
        for machine in (null(Alphabet("ab")), numbers_machine("a", (1, 1), (((1, 2), (3, 4)),), (0, 0))):
            self.assertEqual(seen_words(machine), ())

    def test_long_ones(self):
        for letters in ("ab", "ba"):
            m = word_machine(Alphabet(letters), "abbabbbab")
            self.assertEqual(seen_words(m), tuple("abbabbbab"[at:] for at in range(9, -1, -1)))


class KeptWords(unittest.TestCase):
    def test_by_definition(self):
        for machine in samples(42):
            found = kept_words(machine)
            self.assertIsInstance(found, tuple)
            self.assertEqual(found, kept_by_definition(machine)[0])

    def test_they_depend_on_the_series_alone(self):
        for machine in samples(43, 1):
            for other in same_series(machine):
                self.assertEqual(kept_words(other), kept_words(machine))

    def test_the_order_of_the_alphabet(self):
        for letters in ("ab", "ba"):
            alphabet = Alphabet(letters)
            f = product(letter(alphabet, "a") + letter(alphabet, "b"), letter(alphabet, "b"))
            self.assertEqual(kept_words(f), ("", letters[0], letters[0] + "b"))
            f = word_machine(alphabet, "ab") + word_machine(alphabet, "ba")
            self.assertEqual(kept_words(f), ("", *letters, letters))

    def test_none(self):
        for machine in zeros():
            self.assertEqual(kept_words(machine), ())

    def test_long_ones(self):
        for letters in ("ab", "ba"):
            m = word_machine(Alphabet(letters), "abbabbbab")
            self.assertEqual(kept_words(m), tuple("abbabbbab"[:at] for at in range(10)))


def zeros():
    """Machines of the series zero."""
    ab = Alphabet("ab")
    f = Choices(44).machine("ab", 3)
    return (null(ab), null(Alphabet("dbca")), constant(ab, Ratio(0)), f.scaled(Ratio(0)), f - f,
            hadamard(letter(ab, "a"), letter(ab, "b")), hadamard(f, null(ab)), left_quotient(letter(ab, "a"), "b"),
            numbers_machine("a", (1, 0), (((1, 0), (0, 1)),), (0, 1)),
            numbers_machine("a", (1, 1), (((1, 2), (2, 1)),), (1, -1)),
            numbers_machine("ab", (1, 2), (((1, 2), (3, 4)), ((0, 1), (1, 0))), (0, 0)),
            numbers_machine("ab", (0, 0), (((1, 2), (3, 4)), ((0, 1), (1, 0))), (5, 0)))


def same_series(machine):
    """Other machines of the same series."""
    n = machine.size()
    alphabet = machine.alphabet
    yield machine + null(alphabet)
    yield null(alphabet) + machine
    yield Choices(45).machine(alphabet.letters, 2).scaled(Ratio(0)) + machine
    yield machine.scaled(Ratio(1, 3)) + machine.scaled(Ratio(2, 3))
    yield product(constant(alphabet, Ratio(1)), machine)
    yield shuffle(machine, constant(alphabet, Ratio(1)))
    yield -(-machine)
    up = Matrix([[Ratio(1 if i <= j else 0) for j in range(n)] for i in range(n)], n)
    down = Matrix([[Ratio(1 if i == j else -1 if i + 1 == j else 0) for j in range(n)] for i in range(n)], n)
    yield machine.changed(up, down)
    yield machine.changed(down, up)
    yield machine.transposed().changed(up, down).transposed()


class LeastForm(unittest.TestCase):
    def test_by_definition(self):
        for machine in samples(46):
            found = least_form(machine)
            self.assertIsInstance(found, Machine)
            self.assertEqual(found, least_by_definition(machine))

    def test_row_column_and_matrices(self):
        for machine in samples(47, 2):
            found, kept, weight = least_form(machine), kept_words(machine), series(machine)
            self.assertEqual(found.size(), len(kept))
            self.assertEqual([fraction(q) for q in found.row], [Fraction(word == "") for word in kept])
            self.assertEqual([fraction(q) for q in found.column], [weight(word) for word in kept])
            for at, u in enumerate(kept):
                self.assertEqual(found.row_after(u), identity(len(kept)).rows[at])

    def test_it_has_the_same_series(self):
        for machine in samples(48):
            expected, found = series(machine), series(least_form(machine))
            for word in all_words(machine.alphabet.letters, {1: 8, 2: 5, 3: 4, 4: 3}[len(machine.alphabet)]):
                self.assertEqual(found(word), expected(word))

    def test_equal_series_have_equal_least_forms(self):
        for machine in samples(49, 1):
            for other in same_series(machine):
                self.assertEqual(least_form(other), least_form(machine))

    def test_other_series_have_other_least_forms(self):
        for machine in samples(50, 1):
            alphabet = machine.alphabet
            for word in all_words(alphabet.letters, 1):
                other = machine + word_machine(alphabet, word)
                self.assertNotEqual(least_form(other), least_form(machine))

    def test_it_is_its_own_least_form(self):
        for machine in samples(51):
            least = least_form(machine)
            self.assertEqual(least_form(least), least)
            self.assertEqual(kept_words(least), kept_words(machine))

    def test_of_the_series_zero(self):
        for machine in zeros():
            self.assertEqual(least_form(machine), null(machine.alphabet))

    def test_as_they_stand(self):
        ab = Alphabet("ab")
        self.assertEqual(least_form(constant(ab, Ratio(3, 2))),
                         Machine(ab, vector(1), [nothing(1, 1)] * 2, vector("3/2")))
        self.assertEqual(least_form(letter(ab, "b").scaled(Ratio(5))),
                         Machine(ab, vector(1, 0), (nothing(2, 2), matrix((0, 1), (0, 0))), vector(0, 5)))
        self.assertEqual(least_form(numbers_machine("a", (3, 3), (((1, 1), (1, 1)),), (1, 1))),
                         Machine(Alphabet("a"), vector(1), (matrix((2,)),), vector(6)))

    def test_larger_machines(self):
        ab = Alphabet("ab")
        m = build(read("(a + b)* a (a + b) (a + b) (a + b)"), ab)
        self.assertEqual(least_form(m).size(), 5)
        again = build(read("~((b + a) (b + a) (b + a) a ((b + a) + 0)*)"), ab)
        self.assertEqual(least_form(again), least_form(m))
        self.assertEqual(rank(build(read("(a a a)* # (b b)*"), ab)), 6)
        self.assertEqual(least_form(power(star(letter(ab, "a")), 6)),
                         least_form(build(read("a* (a* (a* a*)) (a* a*)"), ab)))

    def test_made_in_many_ways(self):
        ab = Alphabet("ab")
        choices = Choices(52)
        for _ in range(4):
            f, g, h = (choices.machine("ab", 1 + choices.below(2)) for _ in range(3))
            small = f - constant(ab, f.weight(""))
            for one, other in (
                    (product(product(f, g), h), product(f, product(g, h))),
                    (product(f, g + h), product(f, g) + product(f, h)),
                    (shuffle(f, g), shuffle(g, f)),
                    (hadamard(f, g + h), hadamard(g, f) + hadamard(h, f)),
                    (star(small), constant(ab, Ratio(1)) + product(small, star(small))),
                    (product(f, g).transposed(), product(g.transposed(), f.transposed())),
                    (left_quotient(f, "ab").transposed(), right_quotient(f.transposed(), "ba")),
                    (right_quotient(left_quotient(f, "a"), "b"), left_quotient(right_quotient(f, "b"), "a")),
                    (substitute(f, {"a": letter(ab, "a"), "b": letter(ab, "b")}), f),
            ):
                self.assertEqual(least_form(one), least_form(other))


class ZeroAndRank(unittest.TestCase):
    def test_zero(self):
        for machine in zeros():
            self.assertIs(is_zero(machine), True)
            self.assertEqual(rank(machine), 0)

    def test_by_definition(self):
        answers = set()
        for machine in samples(53):
            kept, _, words = kept_by_definition(machine)
            weight = series(machine)
            answers.add(is_zero(machine))
            self.assertIs(is_zero(machine), all(weight(word) == 0 for word in words))
            self.assertEqual(rank(machine), len(kept))
            self.assertEqual(rank(machine), least_form(machine).size())
            self.assertLessEqual(rank(machine), machine.size())
        self.assertEqual(answers, {True, False})

    def test_zero_but_at_one_long_word(self):
        m = word_machine(Alphabet("ab"), "abababbb").scaled(Ratio(1, 10 ** 20))
        self.assertIs(is_zero(m), False)
        self.assertEqual(rank(m), 9)

    def test_arguments_stay_and_results_are_equal(self):
        for call in (seen_words, kept_words, least_form, is_zero, rank):
            m = Choices(54).machine("ba", 3)
            self.assertEqual(call(m), call(Choices(54).machine("ba", 3)))
            self.assertEqual(m, Choices(54).machine("ba", 3))


class Examples(unittest.TestCase):
    def test_the_number_of_letters(self):
        self.assertEqual(seen_words(COUNT_OF_A), ("", "a"))
        self.assertEqual(columns(COUNT_OF_A, ("", "a")), [[0, 1], [1, 1]])
        self.assertEqual(kept_words(COUNT_OF_A), ("", "a"))
        self.assertEqual(least_form(COUNT_OF_A), Machine(
            Alphabet("ab"), vector(1, 0), (matrix((0, 1), (-1, 2)), identity(2)), vector(0, 1)))

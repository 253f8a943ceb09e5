import unittest
from fractions import Fraction

from samples import Choices, all_words, fraction, numbers_machine, series
from test_meaning import defined_by_table
from wordweight.build import build
from wordweight.deeds import product, star
from wordweight.errors import Refused
from wordweight.expression import Expression, is_expression
from wordweight.machine import constant, letter, null
from wordweight.meaning import is_defined, weight
from wordweight.ratio import Ratio
from wordweight.text import read, show
from wordweight.unbuild import unbuild
from wordweight.words import Alphabet

LENGTHS = {1: 7, 2: 4, 3: 3, 4: 2}


class Test(unittest.TestCase):
    def check(self, machine, most=None):
        e = unbuild(machine)
        self.assertIsInstance(e, Expression)
        self.assertIs(is_defined(e), True)
        self.assertLessEqual(set(e.used_letters()), set(machine.alphabet.letters))
        expected = series(machine)
        letters = machine.alphabet.letters
        for word in all_words(letters, LENGTHS[len(letters)] if most is None else most):
            self.assertEqual(fraction(weight(e, word)), expected(word), (word, e.count()))
        return e


class Weights(Test):
    def test_any_machines(self):
        choices = Choices(31)
        for letters in ("a", "ba", "cab", "dbca"):
            for size in (0, 1, 2, 3):
                for _ in range(5):
                    self.check(choices.machine(letters, size))

    def test_machines_without_zeros(self):
        def numbers(first, many):
            return [Ratio(first + k, 1 + k % 3) for k in range(many)]
        for letters in ("a", "ba", "dbca"):
            for n in (1, 2, 3):
                rows = [[numbers(1 + 2 * i + at, n) for i in range(n)] for at in range(len(letters))]
                texts = [[[str(q) for q in row] for row in each] for each in rows]
                self.check(numbers_machine(letters, range(2, 2 + n), texts, range(-n, 0)), 5 if letters == "a" else 2)

    def test_machines_with_many_zeros(self):
        choices = Choices(32)
        for letters in ("a", "ba"):
            for _ in range(60):
                def items(many):
                    return [choices.of((0, 0, 0, 0, 1, 1, -1, "2/3")) for _ in range(many)]
                n = 1 + choices.below(3)
                matrices = [[items(n) for _ in range(n)] for _ in letters]
                self.check(numbers_machine(letters, items(n), matrices, items(n)), 4)

    def test_the_series_zero(self):
        for machine in (null(Alphabet("ab")), constant(Alphabet("ab"), Ratio(0)),
                        letter(Alphabet("ba"), "a").scaled(Ratio(0)),
                        numbers_machine("a", (1, 0), (((1, 0), (0, 1)),), (0, 1))):
            self.check(machine)

    def test_numbers_and_letters(self):
        for q in (Ratio(1), Ratio(-3, 7), Ratio(10 ** 70)):
            self.check(constant(Alphabet("ab"), q))
        for a in "ab":
            self.check(letter(Alphabet("ba"), a))
            self.check(letter(Alphabet("ba"), a).scaled(Ratio(5, 2)))

    def test_cycles_through_all_states(self):
        around, stay = ((0, 1, 0), (0, 0, 1), (1, 0, 0)), ((1, 0, 0), (0, 2, 0), (0, 0, 3))
        self.check(numbers_machine("ab", (1, 0, 0), (around, stay), (1, 0, 0)))
        self.check(numbers_machine("a", (0, 0, 1), (((1, 1, 1), (1, 1, 1), (1, 1, 1)),), (1, 0, 0)))
        self.check(numbers_machine("a", (1, 1, 1), (((0, 1, 0), (0, 0, 1), (1, 0, 0)),), (1, -1, 2)))

    def test_the_count_of_the_letters(self):
        e = self.check(numbers_machine("ab", (1, 0), (((1, 1), (0, 1)), ((1, 0), (0, 1))), (0, 1)))
        self.assertEqual(fraction(weight(e, "abaab")), Fraction(3))

    def test_back_again(self):
        choices = Choices(33)
        for size in (0, 1, 2):
            for _ in range(4):
                m = choices.machine("ab", size)
                found = build(unbuild(m), Alphabet("ab"), most=10 ** 6)
                expected, again = series(m), series(found)
                for word in all_words("ab", 4):
                    self.assertEqual(again(word), expected(word))


class Results(Test):
    def test_small_ones_are_within_the_bounds_and_can_be_shown(self):
        choices = Choices(34)
        for letters in ("a", "ab"):
            for size in (0, 1, 2):
                for _ in range(10):
                    e = unbuild(choices.machine(letters, size))
                    self.assertTrue(is_expression(e))
                    self.assertEqual(read(show(e)), e)
                    self.assertTrue(defined_by_table(e))

    def test_all_are_within_the_bounds_of_the_operations(self):
        full = ((2, 3, 5), (7, 2, 3), (5, 7, 2))
        e = unbuild(numbers_machine("abcd", (2, 3, 5), (full,) * 4, (5, 3, 2)))
        self.assertLessEqual(e.depth(), 200)
        self.assertLessEqual(e.count(), 10000)

    def test_equal_arguments_give_equal_results(self):
        for size in (0, 1, 2, 3):
            m = Choices(35).machine("ab", size)
            self.assertEqual(unbuild(m), unbuild(Choices(35).machine("ab", size)))
            self.assertEqual(m, Choices(35).machine("ab", size))


class Sizes(Test):
    def refused(self, machine):
        with self.assertRaises(Refused) as caught:
            unbuild(machine)
        self.assertEqual(caught.exception.reason, "size")

    def test_above_three(self):
        for size in (4, 5, 20):
            for letters in ("a", "dbca"):
                self.refused(Choices(36).machine(letters, size))

    def test_also_where_the_series_is_small(self):
        a = letter(Alphabet("ab"), "a")
        self.check(star(a))
        self.refused(product(a, a))
        self.refused((a + a).scaled(Ratio(0)))

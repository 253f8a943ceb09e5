import unittest
from fractions import Fraction

from samples import Choices, all_words, chosen, fraction, numbers_machine, ratio, series, vector
from wordweight.build import build
from wordweight.errors import Refused
from wordweight.forms import kept_words, rank
from wordweight.machine import constant, letter, null
from wordweight.ratio import Ratio
from wordweight.table import show_least, table
from wordweight.text import read
from wordweight.words import Alphabet

COUNT_OF_A = numbers_machine("ab", (1, 0), (((1, 1), (0, 1)), ((1, 0), (0, 1))), (0, 1))


def samples(seed):
    choices = Choices(seed)
    for letters in ("a", "ab", "ba", "cab", "dbca"):
        for size in range(5 if len(letters) < 3 else 4):
            for _ in range(3):
                yield choices.machine(letters, size)
        f = choices.machine(letters, 2)
        yield f + f
        yield f + choices.machine(letters, 1).scaled(Ratio(0))


class Table(unittest.TestCase):
    def test_the_weights(self):
        for machine in samples(81):
            weight = series(machine)
            words = all_words(machine.alphabet.letters, 2)
            for us, vs in ((tuple(words), tuple(words[:4])), (words[1:3], words), (words[::-1], ("",)), (("",), [""]),
                           (words[:2] * 2, words[:1] * 3)):
                found = table(machine, us, vs)
                self.assertIsInstance(found, tuple)
                self.assertEqual([type(row) for row in found], [tuple] * len(us))
                self.assertEqual([[fraction(q) for q in row] for row in found],
                                 [[weight(u + v) for v in vs] for u in us])

    def test_without_words(self):
        m = Choices(82).machine("ab", 2)
        self.assertEqual(table(m, (), ()), ())
        self.assertEqual(table(m, (), ("a", "b")), ())
        self.assertEqual(table(m, ("a", "b", ""), ()), ((), (), ()))

    def test_as_it_stands(self):
        self.assertEqual(table(COUNT_OF_A, ("", "a"), ("", "b", "aba")), (vector(0, 0, 2), vector(1, 1, 3)))

    def test_refused(self):
        for letters in ("a", "ba", "dbca"):
            for size in (0, 1, 2):
                m = Choices(83).machine(letters, size)
                for word in ("z", "az", "za", "A", " ", "a a", "-"):
                    for us, vs in (((word,), ("",)), (("",), (word,)), (("a", word), ("a",)), (("a",), ("a", word)),
                                   ((), (word,)), ((word,), ()), (("a", word, "a"), (word,))):
                        with self.assertRaises(Refused, msg=(us, vs)) as caught:
                            table(m, us, vs)
                        self.assertEqual(caught.exception.reason, "letter")


class ShowLeast(unittest.TestCase):
    def check(self, machine):
        paper = show_least(machine)
        self.assertIs(type(paper), tuple)
        self.assertEqual(len(paper), 4)
        name, us, vs, weights = paper
        self.assertEqual(name, "least")
        for value in (us, vs, weights, *weights):
            self.assertIs(type(value), tuple)
        self.assertEqual(us, kept_words(machine))
        weight = series(machine)
        # The columns of weights, by the definition: vs are the first ones that are no combinations of those before.
        behind = all_words(machine.alphabet.letters, machine.size() - 1)
        self.assertEqual(list(vs), chosen(behind, [[weight(u + v) for u in us] for v in behind])[0])
        self.assertEqual(len(vs), len(us))
        self.assertEqual([len(row) for row in weights], [len(us)] * len(us))
        for i, row in enumerate(weights):
            for j, v in enumerate(vs):
                self.assertEqual(sum(fraction(q) * weight(u + v) for q, u in zip(row, us)), Fraction(i == j))
        return paper

    def test_many(self):
        sizes = set()
        for machine in samples(84):
            sizes.add(len(self.check(machine)[1]))
        self.assertEqual(sizes, {0, 1, 2, 3, 4})

    def test_the_series_zero(self):
        f = Choices(85).machine("ba", 2)
        for machine in (null(Alphabet("ab")), f - f, constant(Alphabet("ab"), Ratio(0)), f.scaled(Ratio(0))):
            self.assertEqual(self.check(machine), ("least", (), (), ()))

    def test_as_they_stand(self):
        self.assertEqual(self.check(COUNT_OF_A), ("least", ("", "a"), ("", "a"), (vector(-2, 1), vector(1, 0))))
        self.assertEqual(self.check(constant(Alphabet("ab"), ratio("3/2"))), ("least", ("",), ("",), (vector("2/3"),)))
        self.assertEqual(self.check(letter(Alphabet("ba"), "a")),
                         ("least", ("", "a"), ("", "a"), (vector(0, 1), vector(1, 0))))

    def test_words_in_front_and_behind_are_others(self):
        ab = Alphabet("ab")
        paper = self.check(build(read("a b b"), ab))
        self.assertEqual(paper[1:3], (("", "a", "ab", "abb"), ("", "b", "bb", "abb")))
        paper = self.check(build(read("(a + b) a"), Alphabet("ba")))
        self.assertEqual(paper[1:3], (("", "b", "ba"), ("", "a", "ba")))

    def test_words_that_are_seen_but_not_taken(self):
        # The machine sees more words than its series needs.
        zeros, line = ((0, 0, 0), (0, 0, 0), (0, 0, 0)), ((0, 1, 0), (0, 0, 1), (0, 0, 0))
        m = numbers_machine("ab", (1, 0, 0), (zeros, line), (1, 1, 1))
        self.check(m + m)
        self.check(m.transposed() + m.scaled(Ratio(2)))

    def test_results_are_equal_and_arguments_stay(self):
        m = Choices(86).machine("ab", 3)
        us = ["a", "b"]
        self.assertEqual(show_least(m), show_least(Choices(86).machine("ab", 3)))
        self.assertEqual(table(m, us, us), table(m, ("a", "b"), ("a", "b")))
        self.assertEqual((m, us), (Choices(86).machine("ab", 3), ["a", "b"]))

    def test_as_many_as_the_rank(self):
        for machine in samples(87):
            self.assertEqual(len(show_least(machine)[1]), rank(machine))

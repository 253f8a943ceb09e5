import unittest

from samples import Choices, all_words, chosen, fraction, matrix, numbers_machine, series, vector
from wordweight.build import build
from wordweight.deeds import hadamard, left_quotient, product, right_quotient, shuffle, star, word_machine
from wordweight.differ import agree, compare, difference
from wordweight.errors import Refused
from wordweight.forms import least_form
from wordweight.linear import Matrix, nothing
from wordweight.machine import Machine, constant, letter, null
from wordweight.ratio import Ratio
from wordweight.text import read
from wordweight.words import Alphabet

COUNT_OF_A = numbers_machine("ab", (1, 0), (((1, 1), (0, 1)), ((1, 0), (0, 1))), (0, 1))
LENGTH = numbers_machine("ab", (1, 0), (((1, 1), (0, 1)), ((1, 1), (0, 1))), (0, 1))
UNLIKE = (("ab", "ba"), ("a", "b"), ("ab", "a"), ("a", "ab"), ("abc", "acb"), ("abcd", "abce"))


def pairs(seed=61, many=3):
    """Pairs of machines, most of which differ somewhere."""
    choices = Choices(seed)
    for letters in ("a", "ab", "ba", "cab", "dbca"):
        most = 3 if len(letters) < 3 else 2
        for n in range(most):
            for m in range(most):
                for _ in range(many):
                    yield choices.machine(letters, n), choices.machine(letters, m)
        # Machines that differ late only.
        f = choices.machine(letters, 2)
        for word in (letters[-1] * 2, letters[:2] + letters[0], letters[-1] + letters):
            yield f, f + word_machine(Alphabet(letters), word).scaled(Ratio(1, 7))
        yield f, least_form(f)


def by_walk(one, two):
    """The least word at which the weights differ, or None."""
    # The difference of two series of sizes m and n is zero if it is at all words of less than m + n letters.
    f, g = series(one), series(two)
    for word in all_words(one.alphabet.letters, max(one.size() + two.size() - 1, 0)):
        if f(word) != g(word):
            return word
    return None


def step_rows(machine):
    """The rows after the step words, in order, by the definition."""
    words = all_words(machine.alphabet.letters, machine.size() - 1)
    rows = {word: machine.row_after(word) for word in words}
    found, _ = chosen(words, [[fraction(q) for q in rows[word]] for word in words])
    return tuple(rows[word] for word in found)


class Test(unittest.TestCase):
    def check_paper(self, one, two, paper):
        """The paper has its form, and its multiples multiply out."""
        gap = difference(one, two)
        self.assertIsInstance(paper, tuple)
        self.assertEqual(len(paper), 4)
        name, rows, start, steps = paper
        self.assertEqual(name, "agree")
        for value in (rows, start, steps, *rows, *steps, *(row for table in steps for row in table)):
            self.assertIs(type(value), tuple)
        self.assertEqual(len(steps), len(gap.alphabet))
        self.assertEqual([len(table) for table in steps], [len(rows)] * len(gap.alphabet))
        self.assertTrue(all(len(row) == gap.size() for row in rows))
        self.assertEqual(self.sum(rows, start, gap.size()), [fraction(q) for q in gap.row])
        for m, table in zip(gap.matrices, steps):
            for row, multiples in zip(rows, table):
                self.assertEqual(self.sum(rows, multiples, gap.size()), self.sum(m.rows, row, gap.size()))
        for row in rows:
            self.assertEqual(sum(fraction(x) * fraction(y) for x, y in zip(row, gap.column)), 0)

    def sum(self, rows, multiples, width):
        self.assertEqual(len(rows), len(multiples))
        return [sum(fraction(q) * fraction(row[at]) for row, q in zip(rows, multiples)) for at in range(width)]

    def agrees(self, one, two):
        self.assertIs(agree(one, two), True)
        kind, paper = compare(one, two)
        self.assertEqual(kind, "agree")
        self.check_paper(one, two, paper)

    def differs(self, one, two, word):
        self.assertEqual(compare(one, two), ("differ", word))
        self.assertIs(agree(one, two), False)


class Difference(Test):
    def test_row_matrices_and_column(self):
        for one, two in pairs():
            found = difference(one, two)
            m, n = one.size(), two.size()
            self.assertEqual(found.alphabet, one.alphabet)
            self.assertEqual(found.row, one.row + tuple(-q for q in two.row))
            self.assertEqual(found.column, one.column + two.column)
            for a, b, both in zip(one.matrices, two.matrices, found.matrices):
                rows = [row + (Ratio(0),) * n for row in a.rows] + [(Ratio(0),) * m + row for row in b.rows]
                self.assertEqual(both, Matrix(rows, m + n))

    def test_weights(self):
        for one, two in pairs(62, 1):
            f, g, found = series(one), series(two), series(difference(one, two))
            for word in all_words(one.alphabet.letters, 3):
                self.assertEqual(found(word), f(word) - g(word))

    def test_as_it_stands(self):
        one = numbers_machine("ab", (1,), (((2,),), ((3,),)), (4,))
        two = numbers_machine("ab", (5, -6), (((1, 2), (3, 4)), ((0, 1), (1, 0))), (7, 8))
        self.assertEqual(difference(one, two), Machine(
            Alphabet("ab"), vector(1, -5, 6), (matrix((2, 0, 0), (0, 1, 2), (0, 3, 4)),
                                              matrix((3, 0, 0), (0, 0, 1), (0, 1, 0))), vector(4, 7, 8)))
        self.assertEqual(difference(null(Alphabet("ab")), null(Alphabet("ab"))), null(Alphabet("ab")))


class Unlike(Test):
    def test_refused(self):
        for letters, others in UNLIKE:
            for n in (0, 1, 2):
                one, two = Choices(63).machine(letters, n), Choices(64).machine(others, n)
                for call in (difference, compare, agree):
                    with self.assertRaises(Refused) as caught:
                        call(one, two)
                    self.assertEqual(caught.exception.reason, "alphabet")


class Compare(Test):
    def test_against_a_walk(self):
        met = set()
        for one, two in pairs(65):
            word = by_walk(one, two)
            met.add(word)
            if word is None:
                self.agrees(one, two)
            else:
                self.differs(one, two, word)
                self.differs(two, one, word)
        self.assertGreater(len(met), 10)

    def test_the_least_of_several_words(self):
        for letters in ("ab", "ba"):
            alphabet = Alphabet(letters)
            zero = null(alphabet)
            self.differs(letter(alphabet, "a") + letter(alphabet, "b"), zero, letters[0])
            self.differs(word_machine(alphabet, "ab") + word_machine(alphabet, "ba"), zero, letters)
            self.differs(word_machine(alphabet, "aab") + letter(alphabet, "b"), zero, "b")
            self.differs(word_machine(alphabet, "bab") - word_machine(alphabet, "abb"), zero,
                         "abb" if letters == "ab" else "bab")

    def test_late_words(self):
        for letters in ("ab", "ba"):
            alphabet = Alphabet(letters)
            f = Choices(66).machine(letters, 2)
            for word in ("", "b", "abab", "bbbbbbb", "abbabaab"):
                far = word_machine(alphabet, word).scaled(Ratio(1, 10 ** 30))
                self.differs(f + far, f, word)
                self.differs(f, f - far, word)
                self.agrees(f + far, far + f)

    def test_itself(self):
        for one, _ in pairs(67, 1):
            self.agrees(one, one)
            self.agrees(one, least_form(one))

    def test_results_are_equal_and_arguments_stay(self):
        for call in (difference, compare, agree):
            one, two = Choices(68).machine("ab", 2), Choices(69).machine("ab", 2)
            self.assertEqual(call(one, two), call(one, two))
            self.assertEqual(call(one, one + null(Alphabet("ab"))), call(one, one))
            self.assertEqual((one, two), (Choices(68).machine("ab", 2), Choices(69).machine("ab", 2)))


class Paper(Test):
    def test_the_rows_are_those_after_the_step_words(self):
        for one, _ in pairs(70, 2):
            half = one.scaled(Ratio(1, 2))
            for other in (one, least_form(one), one + null(one.alphabet), half + half):
                kind, paper = compare(one, other)
                self.assertEqual(kind, "agree")
                self.check_paper(one, other, paper)
                self.assertEqual(paper[1], step_rows(difference(one, other)))

    def test_as_it_stands(self):
        ab = Alphabet("ab")
        m = numbers_machine("ab", (1,), (((1,),), ((1,),)), (1,))
        one = (vector(1),)
        self.assertEqual(compare(m, m), ("agree", ("agree", (vector(1, -1),), vector(1), (one, one))))
        first, second = vector(1, 0, -1, 0), vector(0, 1, 0, -1)
        rising = (vector(0, 1), vector(0, 0))
        none = (vector(0, 0), vector(0, 0))
        self.assertEqual(compare(letter(ab, "b"), letter(ab, "b")),
                         ("agree", ("agree", (first, second), vector(1, 0), (none, rising))))

    def test_the_row_zero(self):
        for letters in ("a", "ba", "dbca"):
            nothing_there = ("agree", ("agree", (), (), ((),) * len(letters)))
            alphabet = Alphabet(letters)
            far = Choices(71).machine(letters, 2).scaled(Ratio(0))
            self.assertEqual(compare(null(alphabet), null(alphabet)), nothing_there)
            self.assertEqual(compare(far, null(alphabet)), nothing_there)
            self.assertEqual(compare(far, far), nothing_there)

    def test_the_column_zero_has_rows_all_the_same(self):
        m = Machine(Alphabet("a"), vector(1), [nothing(1, 1)], vector(0))
        self.assertEqual(compare(m, null(Alphabet("a"))),
                         ("agree", ("agree", (vector(1), ), vector(1), ((vector(0),),))))


class Ways(Test):
    """Equal series that are made in different ways, and series that are not equal after all."""

    def both(self, one, other):
        self.agrees(one, other)
        self.assertEqual(least_form(one), least_form(other))

    def test_of_machines(self):
        choices = Choices(72)
        for letters in ("ab", "ba"):
            alphabet = Alphabet(letters)
            unit = constant(alphabet, Ratio(1))
            for _ in range(3):
                f, g, h = (choices.machine(letters, 1 + choices.below(2)) for _ in range(3))
                small = f - constant(alphabet, f.weight(""))
                self.both(product(product(f, g), h), product(f, product(g, h)))
                self.both(product(f, g + h), product(f, h) + product(f, g))
                self.both(shuffle(f, g), shuffle(g, f))
                self.both(hadamard(g + h, f), hadamard(f, g) + hadamard(f, h))
                self.both(star(small), unit + product(star(small), small))
                self.both(product(f, g).transposed(), product(g.transposed(), f.transposed()))
                self.both(left_quotient(f, "ab").transposed(), right_quotient(f.transposed(), "ba"))
                for a in letters:
                    self.both(left_quotient(shuffle(f, g), a),
                              shuffle(left_quotient(f, a), g) + shuffle(f, left_quotient(g, a)))

    def test_of_texts(self):
        ab = Alphabet("ab")
        for one, other in (
                ("(a + b)*", "(a* b)* a*"), ("(a b)*", "1 + a (b a)* b"), ("a* # b*", "(a + b)*"),
                ("a* a*", "a* & (a* a*)"), ("~((a b)* a)", "a (b a)*"), ("[a:](a b)*", "b (a b)*"),
                ("[:ab](a b)*", "(a b)*"), ("(2 a)* & (3 a)*", "(6 a)*"), ("(a + b)* & (a b)*", "(a b)*"),
                ("a # a", "2 a a"), ("(a a)* + a (a a)*", "a*"), ("0 (a + b)*", "a & b"),
        ):
            self.both(build(read(one), ab), build(read(other), ab))

    def test_of_texts_that_differ(self):
        ab = Alphabet("ab")
        for one, other, word in (
                ("a* a*", "a*", "a"), ("(a + b)*", "a* # a* # b*", "a"), ("(a b)*", "a (b a)* b", ""),
                ("(a + b)*", "(a + b)* & a*", "b"), ("(a a a)*", "(a a a)* + b a b b", "babb"),
                ("(a b + b a)*", "(a b)* # (a b)*", "ab"), ("a a a # b", "a # a # a # b", "aaab"),
        ):
            self.differs(build(read(one), ab), build(read(other), ab), word)


class Examples(Test):
    def test_the_number_of_letters_and_the_length(self):
        self.assertEqual(compare(COUNT_OF_A, LENGTH), ("differ", "b"))
        self.assertEqual(compare(least_form(COUNT_OF_A), LENGTH), ("differ", "b"))
        self.agrees(COUNT_OF_A, least_form(COUNT_OF_A))

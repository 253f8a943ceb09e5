import unittest
from fractions import Fraction

from samples import Choices, all_words, combination, fraction, numbers_machine, ratio, series, vector
from wordweight.deeds import product, star, word_machine
from wordweight.errors import Malformed
from wordweight.forms import least_form
from wordweight.lengths import least_length, length_quotient, length_sums, recurrence, total
from wordweight.machine import constant, letter, null
from wordweight.poly import Poly, common_divisor
from wordweight.ratio import Ratio
from wordweight.words import Alphabet

AB = Alphabet("ab")
ONES = numbers_machine("ab", (1,), (((1,),), ((1,),)), (1,))
HALF_STAR = numbers_machine("ab", ("1/2",), (((1,),), ((0,),)), (1,))


def machines(seed=131):
    """Machines of sizes from 0 on, some of them larger than they need to be."""
    choices = Choices(seed)
    for letters in ("a", "ab", "ba", "cab"):
        yield null(Alphabet(letters))
        yield constant(Alphabet(letters), ratio("2/3"))
        yield letter(Alphabet(letters), letters[-1])
        yield word_machine(Alphabet(letters), letters[0] * 3)
        for size in (1, 2, 2, 3, 3, 4):
            f = choices.machine(letters, size)
            yield f
            yield f - f
        yield f + f.scaled(Ratio(2))
        yield product(choices.machine(letters, 1), choices.machine(letters, 2))
    yield ONES
    yield HALF_STAR
    yield star(letter(AB, "a")) + word_machine(AB, "bb")


def sums_of(machine, count):
    """The sums of the weights of all words of each length, word by word."""
    weight = series(machine)
    found = [Fraction(0)] * count
    for word in all_words(machine.alphabet.letters, count - 1):
        found[len(word)] += weight(word)
    return found


def fast_sums(machine, count):
    """The same sums, from the row multiplied by the sum of all matrices again and again."""
    row = [fraction(q) for q in machine.row]
    found = []
    for _ in range(count):
        found.append(sum((x * fraction(q) for x, q in zip(row, machine.column)), Fraction(0)))
        row = [sum((x * fraction(matrix.rows[i][j]) for matrix in machine.matrices for i, x in enumerate(row)),
                   Fraction(0)) for j in range(machine.size())]
    return found


def plain(numbers):
    return [fraction(q) for q in numbers]


class Sums(unittest.TestCase):
    def test_word_by_word(self):
        for machine in machines():
            count = 9 if len(machine.alphabet) < 3 else 6
            found = length_sums(machine, count)
            self.assertIs(type(found), tuple)
            self.assertTrue(all(isinstance(q, Ratio) for q in found))
            self.assertEqual(plain(found), sums_of(machine, count))

    def test_counts(self):
        for machine in machines():
            every = length_sums(machine, 12)
            self.assertEqual(plain(every), fast_sums(machine, 12))
            for count in range(12):
                self.assertEqual(length_sums(machine, count), every[:count])

    def test_the_size_0(self):
        self.assertEqual(length_sums(null(AB), 4), vector(0, 0, 0, 0))
        self.assertEqual(length_sums(null(AB), 0), ())

    def test_of_many_lengths(self):
        self.assertEqual(length_sums(ONES, 300)[-1], Ratio(2 ** 299))


class Quotients(unittest.TestCase):
    def test_the_power_series(self):
        for machine in machines():
            p, q = length_quotient(machine)
            count = 3 * machine.size() + 8
            sums = fast_sums(machine, count)
            for k in range(count):
                found = sum((fraction(q.coefficient(i)) * sums[k - i] for i in range(k + 1)), Fraction(0))
                self.assertEqual(found, fraction(p.coefficient(k)))

    def test_lowest_terms(self):
        for machine in machines():
            found = length_quotient(machine)
            self.assertIs(type(found), tuple)
            p, q = found
            self.assertIsInstance(p, Poly)
            self.assertIsInstance(q, Poly)
            self.assertEqual(q.coefficient(0), Ratio(1))
            self.assertEqual(common_divisor(p, q).degree(), 0)

    def test_degrees(self):
        for machine in machines():
            p, q = length_quotient(machine)
            self.assertLessEqual(q.degree(), machine.size())
            self.assertTrue(p.is_zero() or p.degree() < machine.size())

    def test_zero(self):
        for machine in (null(AB), ONES - ONES, letter(AB, "a") - letter(AB, "b"), constant(AB, Ratio(0))):
            self.assertEqual(length_quotient(machine), (Poly([]), Poly([1])))

    def test_it_depends_on_the_sums_alone(self):
        for machine in machines():
            found = length_quotient(machine)
            self.assertEqual(length_quotient(least_form(machine)), found)
            self.assertEqual(length_quotient(machine.transposed()), found)
            self.assertEqual(length_quotient(machine + ONES - ONES) if machine.alphabet == AB else found, found)


class Recurrences(unittest.TestCase):
    def test_the_length(self):
        for machine in machines():
            p, q = length_quotient(machine)
            found = recurrence(machine)
            self.assertIs(type(found), tuple)
            self.assertEqual(len(found), max(q.degree(), p.degree() + 1))
            self.assertEqual(Poly([1] + [-b for b in found]), q)
            self.assertLessEqual(len(found), machine.size())

    def test_it_holds_from_there_on(self):
        for machine in machines():
            found = plain(recurrence(machine))
            count = 3 * machine.size() + 8
            sums = fast_sums(machine, count)
            for k in range(len(found), count):
                self.assertEqual(sums[k], sum((b * sums[k - 1 - i] for i, b in enumerate(found)), Fraction(0)))

    def test_no_shorter_one_holds(self):
        for machine in machines():
            sums = fast_sums(machine, 3 * machine.size() + 4)
            for length in range(len(recurrence(machine))):
                columns = [sums[length - 1 - i:len(sums) - 1 - i] for i in range(length)]
                self.assertIsNone(combination(columns, sums[length:]))

    def test_larger_machines(self):
        choices = Choices(132)
        for size in (8, 12, 20):
            machine = choices.machine("ab", size)
            found = plain(recurrence(machine))
            self.assertEqual(len(found), size)
            sums = fast_sums(machine, 2 * size + 6)
            for k in range(size, len(sums)):
                self.assertEqual(sums[k], sum((b * sums[k - 1 - i] for i, b in enumerate(found)), Fraction(0)))

    def test_as_they_stand(self):
        self.assertEqual(recurrence(word_machine(AB, "abab")), vector(0, 0, 0, 0, 0))
        self.assertEqual(recurrence(constant(AB, Ratio(3))), vector(0))
        fibonacci = numbers_machine("a", (0, 1), (((1, 1), (1, 0)),), (1, 0))
        self.assertEqual(recurrence(fibonacci), vector(1, 1))
        self.assertEqual(length_quotient(fibonacci), (Poly([0, 1]), Poly([1, -1, -1])))
        self.assertEqual(total(fibonacci), Ratio(-1))


class Totals(unittest.TestCase):
    def test_the_quotient_at_1(self):
        some, none = 0, 0
        for machine in machines():
            p, q = length_quotient(machine)
            below = sum(plain(q), Fraction(0))
            if below == 0:
                none += 1
                self.assertIsNone(total(machine))
            else:
                some += 1
                self.assertIsInstance(total(machine), Ratio)
                self.assertEqual(fraction(total(machine)), sum(plain(p), Fraction(0)) / below)
        self.assertGreater(some, 10)
        self.assertGreater(none, 0)

    def test_finitely_many_words(self):
        machine = word_machine(AB, "ab").scaled(Ratio(3)) + word_machine(AB, "") - word_machine(AB, "bba")
        self.assertEqual(total(machine), Ratio(3))


class LeastLengths(unittest.TestCase):
    def test_the_first_length_that_differs(self):
        every = [machine for machine in machines() if machine.alphabet == AB]
        found = set()
        for one in every:
            for two in every:
                count = one.size() + two.size()
                pairs = list(zip(fast_sums(one, count + 5), fast_sums(two, count + 5)))
                told = next((k for k, (x, y) in enumerate(pairs) if x != y), None)
                self.assertEqual(least_length(one, two), told)
                self.assertIs(told is None, length_quotient(one) == length_quotient(two))
                found.add(told)
        self.assertGreaterEqual(found, {None, 0, 1, 3})

    def test_equal_sums_of_different_series(self):
        self.assertIsNone(least_length(letter(AB, "a"), letter(AB, "b")))
        self.assertIsNone(least_length(word_machine(AB, "aab"), word_machine(AB, "bba")))
        self.assertIsNone(least_length(null(AB), letter(AB, "a") - letter(AB, "b")))

    def test_as_they_stand(self):
        self.assertEqual(least_length(constant(AB, Ratio(1)), null(AB)), 0)
        self.assertEqual(least_length(word_machine(AB, "ababa"), null(AB)), 5)
        self.assertEqual(least_length(word_machine(AB, "ababa"), word_machine(AB, "abab")), 4)

    def test_unlike_alphabets(self):
        for letters in ("ba", "a", "abc", "ac"):
            other = constant(Alphabet(letters), Ratio(1))
            for one, two in ((ONES, other), (other, ONES), (null(AB), null(Alphabet(letters)))):
                with self.assertRaises(Malformed):
                    least_length(one, two)


class Examples(unittest.TestCase):
    def test_of_the_document(self):
        self.assertEqual(length_sums(ONES, 4), vector(1, 2, 4, 8))
        self.assertEqual(length_quotient(ONES), (Poly([1]), Poly([1, -2])))
        self.assertEqual(recurrence(ONES), vector(2))
        self.assertEqual(total(ONES), Ratio(-1))
        a = letter(AB, "a")
        self.assertEqual(length_sums(a, 4), vector(0, 1, 0, 0))
        self.assertEqual(length_quotient(a), (Poly([0, 1]), Poly([1])))
        self.assertEqual(recurrence(a), vector(0, 0))
        self.assertEqual(total(a), Ratio(1))
        self.assertEqual(length_sums(HALF_STAR, 3), vector("1/2", "1/2", "1/2"))
        self.assertEqual(length_quotient(HALF_STAR)[1], Poly([1, -1]))
        self.assertIsNone(total(HALF_STAR))
        half_of_a = star(letter(Alphabet("a"), "a")).scaled(ratio("1/2"))
        self.assertEqual(length_sums(half_of_a, 3), vector("1/2", "1/2", "1/2"))
        self.assertEqual(length_quotient(half_of_a), (Poly([ratio("1/2")]), Poly([1, -1])))
        self.assertIsNone(total(half_of_a))
        self.assertEqual(length_quotient(null(AB)), (Poly([]), Poly([1])))
        self.assertEqual(recurrence(null(AB)), ())
        self.assertEqual(total(null(AB)), Ratio(0))

    def test_arguments_stay(self):
        for machine in machines():
            before = (machine.row, machine.matrices, machine.column)
            for call in (lambda: length_sums(machine, 5), lambda: length_quotient(machine),
                         lambda: recurrence(machine), lambda: total(machine), lambda: least_length(machine, machine)):
                self.assertEqual(call(), call())
            self.assertEqual((machine.row, machine.matrices, machine.column), before)

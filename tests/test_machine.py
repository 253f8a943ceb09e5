import unittest
from fractions import Fraction
from itertools import product

from samples import VALUES, Choices, matrix, ratio, vector
from wordweight.errors import Malformed, Refused
from wordweight.linear import Matrix, identity, nothing
from wordweight.machine import Machine, constant, letter, null
from wordweight.ratio import Ratio
from wordweight.words import Alphabet, cuts

LETTERS = ("a", "ba", "abc", "dbca")


def machines(most=4, seed=1):
    """Machines of the sizes from 0 on over 1 to 4 letters."""
    choices = Choices(seed)
    return [choices.machine(letters, size) for letters in LETTERS for size in range(most + 1)]


def words(machine, most):
    """All words over the alphabet of a machine up to a length."""
    return ["".join(word) for length in range(most + 1) for word in product(machine.alphabet.letters, repeat=length)]


def plain(value):
    """Fractions from a vector or from the rows of a matrix."""
    if isinstance(value, Ratio):
        return Fraction(value.n, value.d)
    return [plain(item) for item in value]


def row_after(machine, word):
    found = plain(machine.row)
    for a in word:
        rows = plain(machine.matrices[machine.alphabet.letters.index(a)].rows)
        found = [sum(found[i] * rows[i][j] for i in range(len(found))) for j in range(len(found))]
    return found


def column_before(machine, word):
    found = plain(machine.column)
    for a in word[::-1]:
        rows = plain(machine.matrices[machine.alphabet.letters.index(a)].rows)
        found = [sum(rows[i][j] * found[j] for j in range(len(found))) for i in range(len(found))]
    return found


def weight(machine, word):
    return sum(x * y for x, y in zip(row_after(machine, word), plain(machine.column)))


class Making(unittest.TestCase):
    def test_fields(self):
        m = Machine(Alphabet("ba"), vector(1, 2), (matrix((1, 0), (0, 1)), matrix((0, 1), (0, 0))), vector(0, 3))
        self.assertEqual(m.alphabet, Alphabet("ba"))
        self.assertEqual(m.row, vector(1, 2))
        self.assertEqual(m.matrices, (matrix((1, 0), (0, 1)), matrix((0, 1), (0, 0))))
        self.assertEqual(m.column, vector(0, 3))
        self.assertEqual(m.size(), 2)

    def test_lists_become_tuples_and_are_not_kept(self):
        row, column, matrices = [Ratio(1)], [Ratio(2)], [matrix((3,)), matrix((4,))]
        m = Machine(Alphabet("ab"), row, matrices, column)
        row.append(Ratio(1))
        column[0] = Ratio(9)
        matrices.clear()
        self.assertEqual((m.row, m.matrices, m.column), (vector(1), (matrix((3,)), matrix((4,))), vector(2)))
        self.assertEqual([type(field) for field in (m.row, m.matrices, m.column)], [tuple] * 3)
        self.assertEqual(m, Machine(Alphabet("ab"), vector(1), (matrix((3,)), matrix((4,))), vector(2)))
        self.assertEqual(m.size(), 1)

    def test_size(self):
        for m in machines():
            self.assertEqual(m.size(), len(m.row))
            self.assertEqual(m.size(), len(m.column))
        self.assertEqual([m.size() for m in machines()], [0, 1, 2, 3, 4] * 4)

    def test_row_and_column_of_different_lengths(self):
        for row, column in (((1,), ()), ((), (1,)), ((1, 2), (1,)), ((1,), (1, 2)), ((1, 2, 3), (1, 2))):
            for size in {len(row), len(column)}:
                with self.assertRaises(Malformed):
                    Machine(Alphabet("a"), vector(*row), (identity(size),), vector(*column))

    def test_wrong_number_of_matrices(self):
        for letters in LETTERS:
            for many in range(6):
                for size in (0, 1, 2):
                    arguments = (Alphabet(letters), [Ratio(0)] * size, [identity(size)] * many, [Ratio(1)] * size)
                    if many == len(letters):
                        self.assertEqual(Machine(*arguments).size(), size)
                    else:
                        with self.assertRaises(Malformed):
                            Machine(*arguments)

    def test_matrices_that_are_no_squares_of_the_size(self):
        for size in range(4):
            for height, width in product(range(5), repeat=2):
                wrong = nothing(height, width)
                for matrices in ((wrong, identity(size)), (identity(size), wrong), (wrong, wrong)):
                    arguments = (Alphabet("ab"), [Ratio(1)] * size, matrices, [Ratio(1)] * size)
                    if height == width == size:
                        self.assertEqual(Machine(*arguments).size(), size)
                    else:
                        with self.assertRaises(Malformed, msg=(size, height, width)):
                            Machine(*arguments)

    def test_the_width_of_a_matrix_without_rows_counts(self):
        with self.assertRaises(Malformed):
            Machine(Alphabet("a"), (), (Matrix((), 2),), ())
        self.assertEqual(Machine(Alphabet("a"), (), (Matrix((), 0),), ()).size(), 0)


class Equality(unittest.TestCase):
    def test_equal_data(self):
        for one, other in zip(machines(), machines()):
            self.assertIs(one == other, True)
            self.assertIs(one != other, False)

    def test_each_field_counts(self):
        alphabet, row, matrices, column = Alphabet("ab"), vector(1, 2), [identity(2), nothing(2, 2)], vector(0, 1)
        m = Machine(alphabet, row, matrices, column)
        for other in (
            Machine(Alphabet("ba"), row, matrices, column), Machine(Alphabet("ac"), row, matrices, column),
            Machine(alphabet, vector(1, 3), matrices, column), Machine(alphabet, row, matrices, vector(0, 2)),
            Machine(alphabet, row, [identity(2), identity(2)], column),
            Machine(alphabet, row, [nothing(2, 2), identity(2)], column), null(alphabet), constant(alphabet, Ratio(1)),
        ):
            self.assertIs(m == other, False)
            self.assertIs(other == m, False)
            self.assertIs(m != other, True)

    def test_equal_weights_are_not_enough(self):
        self.assertIs(null(Alphabet("a")) == constant(Alphabet("a"), Ratio(0)), False)

    def test_every_other_value(self):
        for m in (null(Alphabet("a")), letter(Alphabet("ab"), "b"), constant(Alphabet("ab"), Ratio(2))):
            for value in VALUES:
                expected = isinstance(value, Machine) and vars(value) == vars(m)
                self.assertIs(m == value, expected)
                self.assertIs(value == m, expected)


class Weights(unittest.TestCase):
    def test_row_column_and_weight_multiplied_out(self):
        for m in machines():
            for word in words(m, 3):
                self.assertIsInstance(m.row_after(word), tuple)
                self.assertIsInstance(m.column_before(word), tuple)
                self.assertEqual(plain(m.row_after(word)), row_after(m, word))
                self.assertEqual(plain(m.column_before(word)), column_before(m, word))
                self.assertIsInstance(m.weight(word), Ratio)
                self.assertEqual(plain(m.weight(word)), weight(m, word))
                self.assertEqual(m(word), m.weight(word))

    def test_of_the_empty_word(self):
        for m in machines():
            self.assertEqual(m.row_after(""), m.row)
            self.assertEqual(m.column_before(""), m.column)

    def test_the_weight_at_each_cut(self):
        for m in machines(3, seed=2):
            for word in words(m, 3):
                for u, v in cuts(word):
                    parts = [x * y for x, y in zip(plain(m.row_after(u)), plain(m.column_before(v)))]
                    self.assertEqual(sum(parts), plain(m.weight(word)))

    def test_long_words(self):
        counting = Machine(Alphabet("ab"), vector(1, 0), (matrix((1, 1), (0, 1)), identity(2)), vector(0, 1))
        self.assertEqual(counting.weight("ab" * 3000), Ratio(3000))
        self.assertEqual(counting.column_before("aab" * 1000), vector(2000, 1))
        double = Machine(Alphabet("a"), vector(1), (matrix((2,)),), vector(1))
        self.assertEqual(double("a" * 3000), Ratio(2 ** 3000))

    def test_size_0(self):
        for letters in LETTERS:
            m = null(Alphabet(letters))
            for word in words(m, 3):
                self.assertEqual(m.weight(word), Ratio(0))
                self.assertEqual((m.row_after(word), m.column_before(word)), ((), ()))

    def test_strange_letters(self):
        for letters in LETTERS:
            for size in (0, 1, 2):
                m = Choices(5).machine(letters, size)
                for word in ("e", "E", "A", " ", "-", "1", "ea", "ae", "aea", "a a", "aaaa ", "aaaaB", "\n", "\u00e4"):
                    for method in (m.weight, m, m.row_after, m.column_before):
                        with self.assertRaises(Refused, msg=(letters, word)) as caught:
                            method(word)
                        self.assertEqual(caught.exception.reason, "letter")

    def test_letters_of_another_alphabet(self):
        m = letter(Alphabet("ab"), "a")
        for word in ("c", "abc", "cab", "acb"):
            with self.assertRaises(Refused):
                m.weight(word)


class WeightedWords(unittest.TestCase):
    def test_all_words_in_order(self):
        for m in machines(3):
            for most in (0, 1, 2, 3):
                found = list(m.weighted_words(most))
                self.assertEqual([word for word, _ in found], words(m, most))
                self.assertTrue(all(type(pair) is tuple and len(pair) == 2 for pair in found))
                self.assertEqual([plain(q) for _, q in found], [weight(m, word) for word, _ in found])

    def test_longer_words(self):
        m = Choices(8).machine("ba", 3)
        self.assertEqual([(w, plain(q)) for w, q in m.weighted_words(7)], [(w, weight(m, w)) for w in words(m, 7)])

    def test_none_for_a_negative_number(self):
        for m in machines(2):
            for most in (-1, -2, -100):
                self.assertEqual(list(m.weighted_words(most)), [])

    def test_is_a_generator(self):
        found = letter(Alphabet("ba"), "a").weighted_words(10 ** 9)
        self.assertIs(iter(found), found)
        self.assertEqual([next(found) for _ in range(4)],
                         [("", Ratio(0)), ("b", Ratio(0)), ("a", Ratio(1)), ("bb", Ratio(0))])

    def test_one_letter(self):
        m = Machine(Alphabet("z"), vector(1), (matrix((2,)),), vector(1))
        self.assertEqual(list(m.weighted_words(300))[-1], ("z" * 300, Ratio(2 ** 300)))


class Small(unittest.TestCase):
    def test_null(self):
        for letters in LETTERS:
            m = null(Alphabet(letters))
            self.assertEqual((m.alphabet, m.size(), m.row, m.column), (Alphabet(letters), 0, (), ()))
            self.assertEqual(m.matrices, (Matrix((), 0),) * len(letters))

    def test_constant(self):
        for letters in LETTERS:
            for q in (Ratio(0), Ratio(1), Ratio(-7, 3)):
                m = constant(Alphabet(letters), q)
                self.assertEqual((m.alphabet, m.size(), m.row, m.column), (Alphabet(letters), 1, (q,), vector(1)))
                self.assertEqual(m.matrices, (matrix((0,)),) * len(letters))
                for word in words(m, 2):
                    self.assertEqual(m.weight(word), q if word == "" else Ratio(0))

    def test_letter(self):
        for letters in LETTERS:
            for a in letters:
                m = letter(Alphabet(letters), a)
                self.assertEqual((m.alphabet, m.size()), (Alphabet(letters), 2))
                self.assertEqual((m.row, m.column), (vector(1, 0), vector(0, 1)))
                self.assertEqual(m.matrices,
                                 tuple(matrix((0, 1), (0, 0)) if b == a else nothing(2, 2) for b in letters))
                for word in words(m, 3):
                    self.assertEqual(m.weight(word), Ratio(1 if word == a else 0))

    def test_strange_letters(self):
        for letters in ("ab", "ba", "bac"):
            for value in VALUES + ("z", "ab", "ba", "aa", "B"):
                if not (isinstance(value, str) and len(value) == 1 and value in letters):
                    with self.assertRaises(Refused, msg=repr(value)) as caught:
                        letter(Alphabet(letters), value)
                    self.assertEqual(caught.exception.reason, "letter")


class Operations(unittest.TestCase):
    def pairs(self):
        choices = Choices(11)
        for letters in LETTERS:
            for size in (0, 1, 2):
                for other in (0, 1, 3):
                    yield choices.machine(letters, size), choices.machine(letters, other)

    def test_weights_of_sum_and_difference(self):
        for f, g in self.pairs():
            for word in words(f, 3):
                self.assertEqual(plain((f + g).weight(word)), weight(f, word) + weight(g, word))
                self.assertEqual(plain((f - g).weight(word)), weight(f, word) - weight(g, word))

    def test_data_of_the_sum(self):
        for f, g in self.pairs():
            self.check_sum(f, g, f + g)
            self.check_sum(f, g.scaled(Ratio(-1)), f - g)

    def check_sum(self, f, g, found):
        self.assertEqual(found.alphabet, f.alphabet)
        self.assertEqual(found.row, f.row + g.row)
        self.assertEqual(found.column, f.column + g.column)
        for m, n, both in zip(f.matrices, g.matrices, found.matrices):
            rows = [list(row) + [Ratio(0)] * g.size() for row in m.rows]
            rows += [[Ratio(0)] * f.size() + list(row) for row in n.rows]
            self.assertEqual(both, Matrix(rows, f.size() + g.size()))

    def test_a_sum_as_it_stands(self):
        f = Machine(Alphabet("a"), vector(1), (matrix((2,)),), vector(3))
        g = Machine(Alphabet("a"), vector(4, 5), (matrix((6, 7), (8, 9)),), vector(1, 2))
        self.assertEqual(f + g, Machine(Alphabet("a"), vector(1, 4, 5),
                                        (matrix((2, 0, 0), (0, 6, 7), (0, 8, 9)),), vector(3, 1, 2)))
        self.assertEqual(g - f, Machine(Alphabet("a"), vector(4, 5, -1),
                                        (matrix((6, 7, 0), (8, 9, 0), (0, 0, 2)),), vector(1, 2, 3)))

    def test_negative_and_multiples(self):
        for f in machines(3, seed=4):
            self.assertEqual(-f, f.scaled(Ratio(-1)))
            for q in (Ratio(0), Ratio(1), Ratio(-1), Ratio(2, 3)):
                g = f.scaled(q)
                self.assertEqual((g.alphabet, g.matrices, g.column), (f.alphabet, f.matrices, f.column))
                self.assertEqual(g.row, tuple(item * q for item in f.row))
                for word in words(f, 2):
                    self.assertEqual(plain(g.weight(word)), weight(f, word) * Fraction(q.n, q.d))
                    self.assertEqual(plain((-f).weight(word)), -weight(f, word))

    def test_transposed(self):
        for f in machines(3, seed=5):
            g = f.transposed()
            self.assertEqual((g.alphabet, g.row, g.column), (f.alphabet, f.column, f.row))
            self.assertEqual(g.matrices, tuple(m.transposed() for m in f.matrices))
            self.assertEqual(g.transposed(), f)
            for word in words(f, 3):
                self.assertEqual(plain(g.weight(word)), weight(f, word[::-1]))

    def test_unlike_alphabets(self):
        pairs = (("a", "b"), ("ab", "ba"), ("ab", "a"), ("a", "ab"), ("abc", "cab"), ("abcd", "abdc"), ("ab", "ac"))
        for one, other in pairs:
            for size in (0, 1, 2):
                f, g = Choices(3).machine(one, size), Choices(4).machine(other, size)
                with self.assertRaises(Malformed):
                    f + g
                with self.assertRaises(Malformed):
                    f - g

    def test_arguments_stay(self):
        f, g = Choices(6).machine("ab", 2), Choices(7).machine("ab", 2)
        results = [f + g, f - g, -f, f.scaled(Ratio(2)), f.transposed(), f.changed(identity(2), identity(2))]
        self.assertEqual(f, Choices(6).machine("ab", 2))
        self.assertEqual(g, Choices(7).machine("ab", 2))
        self.assertEqual(results[0], f + g)


class ChangeOfBasis(unittest.TestCase):
    PAIRS = (
        (matrix(width=0), matrix(width=0)),
        (matrix((2,)), matrix(("1/2",))),
        (matrix((1, 1), (0, 1)), matrix((1, -1), (0, 1))),
        (matrix((0, 1), (1, 0)), matrix((0, 1), (1, 0))),
        (matrix((1, 2), (3, 4)), matrix((-2, 1), ("3/2", "-1/2"))),
        (matrix((0, 1, 0), (0, 0, 2), (1, 0, 0)), matrix((0, 0, 1), (1, 0, 0), (0, "1/2", 0))),
    )

    def test_keeps_the_weights_and_goes_back(self):
        for p, q in self.PAIRS:
            for letters in LETTERS:
                f = Choices(9).machine(letters, len(p))
                g = f.changed(p, q)
                self.assertEqual(g.alphabet, f.alphabet)
                self.assertEqual(g.row, q.before(f.row))
                self.assertEqual(g.column, p.times(f.column))
                self.assertEqual(g.matrices, tuple(p * m * q for m in f.matrices))
                self.assertEqual(g.changed(q, p), f)
                for word in words(f, 3):
                    self.assertEqual(plain(g.weight(word)), weight(f, word))

    def test_a_change_as_it_stands(self):
        f = Machine(Alphabet("a"), vector(1, 0), (matrix((0, 1), (0, 0)),), vector(0, 1))
        g = f.changed(matrix((1, 1), (0, 1)), matrix((1, -1), (0, 1)))
        self.assertEqual(g, Machine(Alphabet("a"), vector(1, -1), (matrix((0, 1), (0, 0)),), vector(1, 1)))

    def test_sizes_that_do_not_fit(self):
        for size in (0, 1, 2):
            f = Choices(10).machine("ab", size)
            for p, q in product(product(range(4), repeat=2), repeat=2):
                if p == q == (size, size):
                    continue
                with self.assertRaises(Malformed, msg=(size, p, q)):
                    f.changed(unit(*p), unit(*q))

    def test_no_inverse(self):
        f = Choices(12).machine("ab", 2)
        two, swap = identity(2).scaled(Ratio(2)), matrix((0, 1), (1, 0))
        shear = matrix((1, 1), (0, 1))
        for p, q in ((two, identity(2)), (identity(2), two), (two, two), (swap, identity(2)), (shear, shear),
                     (nothing(2, 2), identity(2)), (identity(2), nothing(2, 2)), (shear, shear.transposed()),
                     (matrix((1, 0), (0, 0)), matrix((1, 0), (0, 0)))):
            with self.assertRaises(Malformed):
                f.changed(p, q)
        self.assertEqual(f.changed(two, identity(2).scaled(ratio("1/2"))).size(), 2)


def unit(height, width):
    """A matrix with 1 along the diagonal."""
    return Matrix([[Ratio(1 if i == j else 0) for j in range(width)] for i in range(height)], width)

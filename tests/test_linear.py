import unittest
from itertools import combinations, permutations, product
from random import Random

from samples import VALUES, all_matrices, matrix, ratio, vector
from wordweight.linear import (
    Matrix, combine, dot, identity, is_vector, nothing, shows_independent)
from wordweight.ratio import Ratio

SIZES = ((0, 0), (0, 1), (0, 3), (1, 0), (3, 0), (1, 1), (1, 2), (2, 1), (1, 3), (3, 1), (2, 2), (2, 3), (3, 2))


def some_matrices():
    """All small matrices over few items, and larger ones with fractions, equal rows and rows of zeros."""
    found = []
    for height, width in SIZES:
        items = (0, 1, -2) if height * width > 4 else (0, 1, -1, "1/2")
        found += list(all_matrices(height, width, items))[:300]
    chance = Random(7)
    for _ in range(60):
        height, width = chance.randint(1, 6), chance.randint(1, 6)
        rows = [[Ratio(chance.choice((0, 0, 0, 1, 1, -1, 2, 3, -5)), chance.choice((1, 1, 2, 3))) for _ in range(width)]
                for _ in range(height)]
        rows += chance.choice(([], [rows[0]], [[Ratio(0)] * width]))
        found.append(Matrix(rows, width))
    big = 10 ** 30
    found.append(matrix([big, 1, 3], [2, big, "1/3"], [big + 2, big + 1, "10/3"]))
    found.append(matrix([0, big, 3], [0, 0, "-1/7"], [0, 0, 0]))
    return found


MATRICES = some_matrices()


def determinant(rows):
    """The determinant by its definition, with integers and fractions as Ratio."""
    sum_ = Ratio(0)
    for order in permutations(range(len(rows))):
        term = Ratio(1)
        for i, j in enumerate(order):
            term = term * rows[i][j]
        swaps = sum(1 for i, j in combinations(order, 2) if i > j)
        sum_ = sum_ + (term if swaps % 2 == 0 else -term)
    return sum_


def rank_by_minors(m):
    """The size of the greatest square part with a determinant that is not zero."""
    for size in range(min(len(m.rows), m.width), 0, -1):
        for some in combinations(m.rows, size):
            for columns in combinations(range(m.width), size):
                if determinant([[row[at] for at in columns] for row in some]).n:
                    return size
    return 0


def right_sides(m):
    """Right sides for a matrix: zeros, units, sums of columns, and others."""
    height = len(m.rows)
    sides = [vector(*[0] * height), vector(*range(1, height + 1)), vector(*["1/2"] * height)]
    sides += [vector(*[int(i == j) for j in range(height)]) for i in range(height)]
    sides.append(tuple(dot(row, vector(*range(1, m.width + 1))) for row in m.rows))
    return sides


class Products(unittest.TestCase):
    def test_dot(self):
        self.assertEqual(dot((), ()), Ratio(0))
        self.assertEqual(dot(vector(2), vector("1/2")), Ratio(1))
        self.assertEqual(dot(vector(1, 2, "-1/2"), vector(3, -1, 4)), Ratio(-1))
        self.assertEqual(dot(vector(0, 1), vector(1, 0)), Ratio(0))

    def test_combine(self):
        rows = (vector(1, 2), vector(0, -1), vector("1/2", 0))
        self.assertEqual(combine(rows, 2, vector(2, 3, 4)), vector(4, 1))
        self.assertEqual(combine(rows, 2, vector(0, 0, 0)), vector(0, 0))
        self.assertEqual(combine(rows[:1], 2, vector(-1)), vector(-1, -2))

    def test_combine_of_no_rows_and_of_the_width_0(self):
        for width in range(4):
            self.assertEqual(combine((), width, ()), vector(*[0] * width))
        self.assertEqual(combine(((), ()), 0, vector(1, 2)), ())

    def test_the_results_are_vectors(self):
        self.assertIs(type(combine((vector(1, 2),), 2, vector(3))), tuple)
        for m in MATRICES:
            weights = vector(*range(2, len(m.rows) + 2))
            x = vector(*range(3, m.width + 3))
            self.assertTrue(is_vector(combine(m.rows, m.width, weights), m.width))
            self.assertTrue(is_vector(m.before(weights), m.width))
            self.assertTrue(is_vector(m.times(x), len(m.rows)))

    def test_before_and_times(self):
        for m in MATRICES:
            weights = vector(*range(2, len(m.rows) + 2))
            x = vector(*range(3, m.width + 3))
            for at, item in enumerate(m.before(weights)):
                self.assertEqual(item, dot(weights, [row[at] for row in m.rows]))
            self.assertEqual(m.before(weights), combine(m.rows, m.width, weights))
            self.assertEqual(list(m.times(x)), [dot(row, x) for row in m.rows])

    def test_arguments_are_the_same_afterwards(self):
        rows, weights = [[Ratio(1), Ratio(2)], [Ratio(3), Ratio(4)]], [Ratio(5), Ratio(6)]
        combine(tuple(tuple(row) for row in rows), 2, weights)
        m = Matrix(rows, 2)
        m.before(weights), m.times(weights), m.solve(weights), m.reduced(), m.kernel(), m.duals(), m.dependence()
        m + m, m - m, m * m, m.scaled(Ratio(3)), m.transposed(), m.rank(), m.shows_none(weights, tuple(weights))
        self.assertEqual(rows, [[Ratio(1), Ratio(2)], [Ratio(3), Ratio(4)]])
        self.assertEqual(weights, [Ratio(5), Ratio(6)])
        self.assertEqual(m, matrix([1, 2], [3, 4]))


class Matrices(unittest.TestCase):
    def test_fields_are_tuples(self):
        one, two = Ratio(1), Ratio(2)
        for rows in ([[one, two]], ([one, two],), [(one, two)], ((one, two),)):
            m = Matrix(rows, 2)
            self.assertEqual((m.rows, m.width), (((one, two),), 2))
            self.assertIs(type(m.rows), tuple)
            self.assertIs(type(m.rows[0]), tuple)
        for m in (Matrix([], 3), Matrix((), 3), Matrix(rows=[], width=3)):
            self.assertEqual((m.rows, m.width), ((), 3))
        m = Matrix([[], []], 0)
        self.assertEqual((m.rows, m.width), (((), ()), 0))

    def test_given_lists_are_copied(self):
        rows = [[Ratio(1)], [Ratio(2)]]
        m = Matrix(rows, 1)
        rows[0][0] = Ratio(9)
        rows.append([Ratio(3)])
        self.assertEqual(m.rows, (vector(1), vector(2)))

    def test_results_have_tuples(self):
        for m in MATRICES:
            other = Matrix(m.rows, m.width)
            for result in (m + other, m - other, m.scaled(Ratio(2)), m.transposed(), m * m.transposed(), m.reduced()[0],
                           identity(2), nothing(2, 3)):
                self.assertIs(type(result), Matrix)
                self.assertIs(type(result.rows), tuple)
                self.assertTrue(all(is_vector(row, result.width) for row in result.rows))

    def test_len_and_iteration(self):
        for m in MATRICES:
            self.assertEqual(len(m), len(m.rows))
            self.assertEqual(list(m), list(m.rows))
        self.assertEqual(len(Matrix([], 4)), 0)
        self.assertEqual(len(Matrix([[], [], []], 0)), 3)

    def test_equality(self):
        self.assertTrue(matrix([1, 2]) == matrix([1, 2]))
        self.assertFalse(matrix([1, 2]) == matrix([1, 3]))
        self.assertFalse(matrix([1, 2]) == matrix([1, 2], [1, 2]))
        self.assertFalse(matrix([1], [2]) == matrix([1, 2]))
        self.assertTrue(Matrix((), 2) == Matrix([], 2))
        self.assertTrue(Matrix(((),), 0) == Matrix([[]], 0))
        self.assertFalse(matrix([1]) != matrix([1]))

    def test_the_width_counts(self):
        self.assertIs(Matrix((), 2) == Matrix((), 3), False)
        self.assertIs(Matrix((), 0) == Matrix((), 1), False)
        self.assertIs(Matrix((), 0) == Matrix(((),), 0), False)

    def test_equality_with_every_other_value(self):
        for m in (Matrix((), 0), matrix([1]), matrix([1, 0])):
            for value in VALUES + (m.rows, list(m.rows), m.width, (m.rows, m.width)):
                expected = isinstance(value, Matrix) and value.rows == m.rows and value.width == m.width
                self.assertIs(m == value, expected)
                self.assertIs(value == m, expected)

    def test_transposed(self):
        self.assertEqual(matrix([1, 2, 3], [4, 5, 6]).transposed(), matrix([1, 4], [2, 5], [3, 6]))
        self.assertEqual(Matrix((), 2).transposed(), Matrix(((), ()), 0))
        self.assertEqual(Matrix(((), ()), 0).transposed(), Matrix((), 2))
        self.assertEqual(Matrix((), 0).transposed(), Matrix((), 0))
        for m in MATRICES:
            self.assertEqual(m.transposed().transposed(), m)

    def test_sum_difference_scaled(self):
        one, two = matrix([1, 2], ["1/2", -4]), matrix([3, "-1/3"], ["1/2", 4])
        self.assertEqual(one + two, matrix([4, "5/3"], [1, 0]))
        self.assertEqual(one - two, matrix([-2, "7/3"], [0, -8]))
        self.assertEqual(one.scaled(Ratio(-1, 2)), matrix(["-1/2", -1], ["-1/4", 2]))
        self.assertEqual(one.scaled(Ratio(0)), nothing(2, 2))
        for empty in (Matrix((), 0), Matrix((), 3), Matrix(((), ()), 0)):
            self.assertEqual(empty + empty, empty)
            self.assertEqual(empty - empty, empty)
            self.assertEqual(empty.scaled(Ratio(5)), empty)

    def test_product(self):
        one, two = matrix([1, 2], [0, "1/2"], [-1, 3]), matrix([2, 0, 1, 1], [4, -2, 0, "1/3"])
        self.assertEqual(one * two, matrix([10, -4, 1, "5/3"], [2, -1, 0, "1/6"], [10, -6, -1, 0]))
        self.assertEqual(matrix([0, 1], [0, 0]) * matrix([0, 0], [1, 0]), matrix([1, 0], [0, 0]))
        self.assertEqual(matrix([0, 0], [1, 0]) * matrix([0, 1], [0, 0]), matrix([0, 0], [0, 1]))

    def test_product_of_empty_sizes(self):
        self.assertEqual(Matrix((), 2) * matrix([1], [2]), Matrix((), 1))
        self.assertEqual(Matrix((), 0) * Matrix((), 3), Matrix((), 3))
        self.assertEqual(Matrix(((), ()), 0) * Matrix((), 3), nothing(2, 3))
        self.assertEqual(matrix([1, 2]) * Matrix(((), ()), 0), Matrix(((),), 0))

    def test_product_with_units(self):
        for m in MATRICES:
            self.assertEqual(identity(len(m.rows)) * m, m)
            self.assertEqual(m * identity(m.width), m)

    def test_identity_and_nothing(self):
        self.assertEqual(identity(0), Matrix((), 0))
        self.assertEqual(identity(1), matrix([1]))
        self.assertEqual(identity(3), matrix([1, 0, 0], [0, 1, 0], [0, 0, 1]))
        self.assertEqual(nothing(0, 0), Matrix((), 0))
        self.assertEqual(nothing(0, 3), Matrix((), 3))
        self.assertEqual(nothing(2, 0), Matrix(((), ()), 0))
        self.assertEqual(nothing(height=1, width=2), matrix([0, 0]))


class Reduction(unittest.TestCase):
    def test_reduced_has_the_form(self):
        for m in MATRICES:
            reduced, pivots = m.reduced()
            self.assertIs(type(pivots), tuple)
            self.assertEqual(reduced.width, m.width)
            self.assertEqual(len(pivots), len(reduced.rows))
            self.assertEqual(sorted(set(pivots)), list(pivots))
            for i, row in enumerate(reduced.rows):
                filled = [at for at, item in enumerate(row) if item.n]
                self.assertTrue(filled)
                self.assertEqual(filled[0], pivots[i])
                for j, pivot in enumerate(pivots):
                    self.assertEqual(row[pivot], Ratio(int(i == j)))

    def test_reduced_spans_the_same_space(self):
        for m in MATRICES:
            reduced, pivots = m.reduced()
            for row in m.rows:
                self.assertEqual(combine(reduced.rows, m.width, [row[pivot] for pivot in pivots]), row)
            if len(m.rows) <= 4:
                self.assertEqual(len(reduced.rows), rank_by_minors(m))

    def test_reduced_of_a_reduced_matrix(self):
        for m in MATRICES:
            reduced, pivots = m.reduced()
            self.assertEqual(reduced.reduced(), (reduced, pivots))

    def test_reduced_of_rows_in_another_order(self):
        for m in MATRICES:
            self.assertEqual(Matrix(m.rows[::-1], m.width).reduced(), m.reduced())

    def test_told_cases(self):
        self.assertEqual(matrix([0, 2, 4], [1, 1, 1]).reduced(), (matrix([1, 0, -1], [0, 1, 2]), (0, 1)))
        self.assertEqual(matrix([0, 0, 3], [0, 0, 5]).reduced(), (matrix([0, 0, 1]), (2,)))
        self.assertEqual(matrix([1, 2], [2, 4]).reduced(), (matrix([1, 2]), (0,)))
        self.assertEqual(matrix([1, 2], [1, 2], [1, 2]).reduced(), (matrix([1, 2]), (0,)))
        self.assertEqual(nothing(3, 2).reduced(), (Matrix((), 2), ()))
        self.assertEqual(Matrix((), 4).reduced(), (Matrix((), 4), ()))
        self.assertEqual(Matrix(((), ()), 0).reduced(), (Matrix((), 0), ()))

    def test_rank(self):
        self.assertEqual(matrix([1, 2], [2, 4]).rank(), 1)
        self.assertEqual(matrix([1, 2], [2, 5]).rank(), 2)
        self.assertEqual(nothing(3, 3).rank(), 0)
        self.assertEqual(Matrix((), 3).rank(), 0)
        self.assertEqual(Matrix(((), ()), 0).rank(), 0)
        self.assertEqual(identity(5).rank(), 5)
        for m in MATRICES:
            if len(m.rows) <= 4:
                self.assertEqual(m.rank(), rank_by_minors(m))

    def test_kernel(self):
        for m in MATRICES:
            _, pivots = m.reduced()
            free = [at for at in range(m.width) if at not in pivots]
            kernel = m.kernel()
            self.assertIs(type(kernel), tuple)
            self.assertEqual(len(kernel), len(free))
            for i, one in enumerate(kernel):
                self.assertTrue(is_vector(one, m.width))
                self.assertEqual([item.n for item in m.times(one)], [0] * len(m.rows))
                self.assertEqual([one[at] for at in free], [Ratio(int(i == j)) for j in range(len(free))])

    def test_kernel_of_told_cases(self):
        self.assertEqual(matrix([1, 2, 0], [0, 0, 1]).kernel(), (vector(-2, 1, 0),))
        self.assertEqual(matrix([0, 1, "1/2", 3]).kernel(), (vector(1, 0, 0, 0), vector(0, "-1/2", 1, 0),
                                                             vector(0, -3, 0, 1)))
        self.assertEqual(Matrix((), 2).kernel(), (vector(1, 0), vector(0, 1)))
        self.assertEqual(nothing(2, 1).kernel(), (vector(1),))
        self.assertEqual(Matrix(((), ()), 0).kernel(), ())
        self.assertEqual(identity(3).kernel(), ())


class Systems(unittest.TestCase):
    def test_solve(self):
        kinds = {"solution": 0, "none": 0}
        for m in MATRICES:
            _, pivots = m.reduced()
            for right in right_sides(m):
                kind, answer = m.solve(right)
                kinds[kind] += 1
                if kind == "solution":
                    self.assertTrue(is_vector(answer, m.width))
                    self.assertEqual(m.times(answer), right)
                    self.assertTrue(all(item.n == 0 for at, item in enumerate(answer) if at not in pivots))
                else:
                    self.assertTrue(is_vector(answer, len(m.rows)))
                    self.assertEqual([item.n for item in combine(m.rows, m.width, answer)], [0] * m.width)
                    self.assertEqual(dot(answer, right), Ratio(1))
                    self.assertIs(m.shows_none(right, answer), True)
        self.assertGreater(min(kinds.values()), 1000)

    def test_solve_is_by_the_rank(self):
        for m in MATRICES:
            if len(m.rows) <= 3:
                for right in right_sides(m):
                    wide = Matrix([row + (item,) for row, item in zip(m.rows, right)], m.width + 1)
                    solvable = rank_by_minors(m) == rank_by_minors(wide)
                    self.assertEqual(m.solve(right)[0], "solution" if solvable else "none")

    def test_solve_of_told_cases(self):
        self.assertEqual(matrix([1, 2], [2, 4]).solve(vector(3, 6)), ("solution", vector(3, 0)))
        self.assertEqual(matrix([0, 2, 1]).solve(vector(1)), ("solution", vector(0, "1/2", 0)))
        self.assertEqual(Matrix((), 3).solve(()), ("solution", vector(0, 0, 0)))
        self.assertEqual(Matrix((), 0).solve(()), ("solution", ()))
        self.assertEqual(Matrix(((),), 0).solve(vector(0)), ("solution", ()))
        self.assertEqual(Matrix(((),), 0).solve(vector(3)), ("none", vector("1/3")))
        self.assertEqual(nothing(1, 2).solve(vector(-2)), ("none", vector("-1/2")))
        self.assertEqual(matrix([1], [1]).solve([Ratio(1), Ratio(1)]), ("solution", vector(1)))

    def test_shows_none_refuses_every_other_value(self):
        m, right = matrix([1, 1], [2, 2], [0, 1]), vector(1, 3, 5)
        y = vector(-2, 1, 0)
        self.assertIs(m.shows_none(right, y), True)
        for value in VALUES:
            self.assertIs(m.shows_none(right, value), False, repr(value))
        for value in (list(y), y[:2], y + vector(0), (-2, 1, 0), (Ratio(-2), 1, Ratio(0)), (y,), ("none", y),
                      (Ratio(-2), Ratio(1), "0"), (Ratio(-2), Ratio(1), None), (Ratio(-2), True, Ratio(0))):
            self.assertIs(m.shows_none(right, value), False)

    def test_shows_none_refuses_changed_items(self):
        for m in MATRICES[::7]:
            for right in right_sides(m):
                kind, y = m.solve(right)
                if kind == "none":
                    for at, item in enumerate(y):
                        for change in (Ratio(1), Ratio(-1, 3)):
                            changed = y[:at] + (item + change,) + y[at + 1:]
                            weights = combine(m.rows, m.width, changed)
                            holds = all(x.n == 0 for x in weights) and dot(changed, right) == Ratio(1)
                            self.assertIs(m.shows_none(right, changed), holds)
                    self.assertIs(m.shows_none(right, tuple(item + item for item in y)), False)
                    self.assertIs(m.shows_none(right, tuple(-item for item in y)), False)

    def test_shows_none_needs_both_properties(self):
        m = matrix([1, 0], [0, 0])
        self.assertIs(m.shows_none(vector(1, 1), vector(0, 1)), True)
        self.assertIs(m.shows_none(vector(1, 1), vector(1, 0)), False)
        self.assertIs(m.shows_none(vector(1, 1), vector(0, 2)), False)
        self.assertIs(m.shows_none(vector(1, 0), vector(0, 1)), False)
        m = matrix([0, 1], [0, 0])
        self.assertIs(m.shows_none(vector(1, 1), vector(1, 0)), False)

    def test_shows_none_for_solvable_systems(self):
        items = (Ratio(0), Ratio(1), Ratio(-1), Ratio(1, 2))
        for m in (matrix([1, 2], [2, 4]), identity(2), Matrix(((), ()), 0)):
            right = m.times(vector(*range(3, m.width + 3)))
            for y in product(items, repeat=2):
                self.assertIs(m.shows_none(right, y), False)
        self.assertIs(Matrix((), 0).shows_none((), ()), False)
        self.assertIs(Matrix((), 2).shows_none((), ()), False)

    def test_shows_none_for_the_width_0(self):
        self.assertIs(Matrix(((),), 0).shows_none(vector(2), vector("1/2")), True)
        self.assertIs(Matrix(((),), 0).shows_none(vector(2), vector(1)), False)


class Independence(unittest.TestCase):
    def test_one_of_duals_and_dependence(self):
        for m in MATRICES:
            duals, weights = m.duals(), m.dependence()
            if m.rank() == len(m.rows):
                self.assertIsNone(weights)
                self.assertIs(type(duals), tuple)
                self.assertEqual(len(duals), len(m.rows))
                for i, dual in enumerate(duals):
                    self.assertTrue(is_vector(dual, m.width))
                    self.assertEqual([dot(dual, row) for row in m.rows], [Ratio(int(i == j)) for j in range(len(m))])
                self.assertIs(shows_independent(m.rows, m.width, duals), True)
            else:
                self.assertIsNone(duals)
                self.assertTrue(is_vector(weights, len(m.rows)))
                self.assertTrue(any(item.n for item in weights))
                self.assertEqual([item.n for item in combine(m.rows, m.width, weights)], [0] * m.width)

    def test_told_cases(self):
        self.assertEqual(identity(2).duals(), (vector(1, 0), vector(0, 1)))
        self.assertIsNone(identity(2).dependence())
        self.assertEqual(Matrix((), 0).duals(), ())
        self.assertEqual(Matrix((), 3).duals(), ())
        self.assertIsNone(Matrix((), 3).dependence())
        self.assertIsNone(Matrix(((),), 0).duals())
        self.assertTrue(Matrix(((),), 0).dependence()[0].n)
        self.assertIsNone(nothing(1, 2).duals())
        self.assertIsNone(matrix([1, 2], [1, 2]).duals())
        self.assertEqual(matrix([2]).duals(), (vector("1/2"),))

    def test_shows_independent_for_every_value(self):
        rows = (vector(1, 0), vector(1, 1))
        duals = (vector(1, -1), vector(0, 1))
        self.assertIs(shows_independent(rows, 2, duals), True)
        for value in VALUES:
            self.assertIs(shows_independent(rows, 2, value), False, repr(value))
        for value in (list(duals), duals[:1], duals + duals[:1], duals[::-1], (list(duals[0]), duals[1]),
                      ((1, -1), (0, 1)), (vector(1, -1), (Ratio(0), 1)), (vector(1), vector(0)), (duals, duals),
                      (vector(1, -1, 0), vector(0, 1, 0)), Matrix(duals, 2), (vector(2, -2), vector(0, 2)),
                      (vector(1, 0), vector(0, 1)), (vector(1, -1), vector(0, 0)), (duals[0], None), (duals[0], "ab")):
            self.assertIs(shows_independent(rows, 2, value), False)

    def test_shows_independent_without_rows(self):
        for width in (0, 1, 3):
            self.assertIs(shows_independent((), width, ()), True)
            for value in VALUES:
                if value != ():
                    self.assertIs(shows_independent((), width, value), False, repr(value))

    def test_shows_independent_of_dependent_rows(self):
        items = (vector(0, 0), vector(1, 0), vector(0, 1), vector(1, -1), vector("1/2", "1/2"))
        for rows in ((vector(1, 1), vector(2, 2)), (vector(0, 0),), (vector(1, 2), vector(1, 2))):
            for duals in product(items, repeat=len(rows)):
                self.assertIs(shows_independent(rows, 2, duals), False)
        self.assertIs(shows_independent(((),), 0, ((),)), False)
        self.assertIs(shows_independent(((), ()), 0, ((), ())), False)

    def test_shows_independent_takes_any_duals(self):
        rows = (vector(1, 0, 1),)
        for dual in (vector(1, 0, 0), vector(0, 7, 1), vector("1/2", -3, "1/2")):
            self.assertIs(shows_independent(rows, 3, (dual,)), True)
        self.assertIs(shows_independent(rows, 3, (vector(1, 0, 1),)), False)


class IsVector(unittest.TestCase):
    def test_vectors(self):
        for length in range(5):
            value = vector(*range(length))
            for other in range(6):
                self.assertIs(is_vector(value, other), length == other)

    def test_every_value(self):
        for value in VALUES + ((ratio(1), 1), (1, ratio(1)), (ratio(1), True), (ratio(1), None), [ratio(1), ratio(0)]):
            for length in range(4):
                expected = (isinstance(value, tuple) and len(value) == length
                            and all(isinstance(item, Ratio) for item in value))
                self.assertIs(is_vector(value, length), expected, repr(value))

import unittest
from fractions import Fraction

from samples import VALUES, Choices, fraction, ratio, vector
from wordweight.errors import ZeroDivisor
from wordweight.poly import Poly, common_divisor
from wordweight.ratio import Ratio

X = Poly([0, 1])


def polys(seed=111, many=25):
    """Polynomials of small degrees, zero and constants among them."""
    choices = Choices(seed)
    yield from (Poly(()), Poly([1]), Poly([ratio("-1/2")]), X, Poly([0, 0, 3]))
    for _ in range(many):
        yield Poly([ratio(choices.of((0, 0, 1, -1, 2, "1/2", "-3/2"))) for _ in range(choices.below(6))])


def pairs():
    every = list(polys())
    return [(p, q) for p in every for q in every]


def plain(p):
    """The coefficients as Fractions."""
    return [fraction(q) for q in p.row]


def trimmed(row):
    row = list(row)
    while row and row[-1] == 0:
        row.pop()
    return row


def value(row, x):
    return sum((q * x ** k for k, q in enumerate(row)), Fraction(0))


class Making(unittest.TestCase):
    def test_ratios_and_integers(self):
        half = ratio("1/2")
        for row in ([1, half, -3], (1, half, -3), [Ratio(1), half, Ratio(-3)], vector(1, "1/2", -3)):
            p = Poly(row)
            self.assertIs(type(p.row), tuple)
            self.assertEqual(p.row, vector(1, "1/2", -3))
            self.assertTrue(all(isinstance(q, Ratio) for q in p.row))

    def test_zeros_at_the_end(self):
        for row, left in (((), ()), ((0,), ()), ((0, 0, 0), ()), ((Ratio(0),), ()), ((1, 0), (1,)),
                          ((0, 1, 0, Ratio(0)), (0, 1)),
                          ((0, 0, 2), (0, 0, 2)), ((0, 0, ratio("1/3"), 0), (0, 0, "1/3"))):
            self.assertEqual(Poly(row).row, vector(*left))
            self.assertEqual(Poly(list(row)).row, vector(*left))

    def test_the_list_stays(self):
        row = [1, 2, 0]
        p = Poly(row)
        self.assertEqual(row, [1, 2, 0])
        row[0] = 5
        self.assertEqual(p.row, vector(1, 2))

    def test_iterating(self):
        for p in polys():
            self.assertEqual(tuple(p), p.row)
            self.assertEqual([q for q in p], list(p.row))


class Sums(unittest.TestCase):
    def test_by_coefficients(self):
        for p, q in pairs():
            a, b = plain(p), plain(q)
            many = max(len(a), len(b))
            a, b = a + [Fraction(0)] * (many - len(a)), b + [Fraction(0)] * (many - len(b))
            self.assertEqual(plain(p + q), trimmed(x + y for x, y in zip(a, b)))
            self.assertEqual(plain(p - q), trimmed(x - y for x, y in zip(a, b)))

    def test_as_they_stand(self):
        self.assertEqual(Poly([1, 2]) + Poly([3]), Poly([4, 2]))
        self.assertEqual(Poly([1, 2]) - Poly([1, 2]), Poly(()))
        self.assertEqual(Poly([1]) - Poly([0, 1]), Poly([1, -1]))
        self.assertEqual((Poly([1, 1]) + Poly([1, -1])).row, vector(2))

    def test_arguments_stay(self):
        p, q = Poly([1, 2, 3]), Poly([0, 1])
        for call in (lambda: p + q, lambda: p - q, lambda: p * q, lambda: p.divide(q), lambda: common_divisor(p, q)):
            self.assertEqual(call(), call())
            self.assertEqual((p.row, q.row), (vector(1, 2, 3), vector(0, 1)))


class Products(unittest.TestCase):
    def test_by_coefficients(self):
        for p, q in pairs():
            found = [Fraction(0)] * (len(p.row) + len(q.row))
            for i, x in enumerate(plain(p)):
                for j, y in enumerate(plain(q)):
                    found[i + j] += x * y
            self.assertEqual(plain(p * q), trimmed(found))

    def test_as_they_stand(self):
        self.assertEqual(Poly([1, 1]) * Poly([1, -1]), Poly([1, 0, -1]))
        self.assertEqual(Poly([1, 2, 3]) * Poly(()), Poly(()))
        self.assertEqual(Poly([1, 2, 3]) * Poly([ratio("1/2")]), Poly([ratio("1/2"), 1, ratio("3/2")]))


class Equality(unittest.TestCase):
    def test_of_polynomials(self):
        for p, q in pairs():
            self.assertIs(p == q, p.row == q.row)
            self.assertIs(p != q, p.row != q.row)
        self.assertTrue(Poly([1, 0]) == Poly((Ratio(1),)))

    def test_of_other_values(self):
        for p in (Poly(()), Poly([0]), Poly([1]), X):
            for other in VALUES + (p.row, list(p.row), str(p)):
                if not isinstance(other, Poly):
                    self.assertIs(p == other, False)
                    self.assertIs(p != other, True)


class Questions(unittest.TestCase):
    def test_degree_and_zero(self):
        for p in polys():
            self.assertEqual(p.degree(), len(p.row) - 1)
            self.assertIs(p.is_zero(), p.row == ())
        self.assertEqual([Poly(row).degree() for row in ((), (0, 0), (7,), (0, 1), (1, 2, 3, 0))], [-1, -1, 0, 1, 2])
        self.assertIs(Poly([0, 0]).is_zero(), True)
        self.assertIs(Poly([0, 1]).is_zero(), False)

    def test_coefficient(self):
        for p in polys():
            for k in range(-12, 12):
                found = p.coefficient(k)
                self.assertIsInstance(found, Ratio)
                self.assertEqual(found, p.row[k] if 0 <= k < len(p.row) else Ratio(0))
        self.assertEqual([Poly([4, 5, 6]).coefficient(k) for k in (-4, -3, -2, -1, 0, 1, 2, 3, 10 ** 30, -10 ** 30)],
                         list(vector(0, 0, 0, 0, 4, 5, 6, 0, 0, 0)))

    def test_value(self):
        for p in polys():
            for a in vector(0, 1, -1, 2, "1/2", "-7/3"):
                found = p.value(a)
                self.assertIsInstance(found, Ratio)
                self.assertEqual(fraction(found), value(plain(p), fraction(a)))
        self.assertEqual(Poly([1, 2, 3]).value(Ratio(10)), Ratio(321))


class Dividing(unittest.TestCase):
    def test_quotient_and_remainder(self):
        for p, q in pairs():
            if not q.is_zero():
                found = p.divide(q)
                self.assertIs(type(found), tuple)
                quotient, rest = found
                self.assertEqual(quotient * q + rest, p)
                self.assertLess(rest.degree(), q.degree())

    def test_as_they_stand(self):
        self.assertEqual(Poly([-1, 0, 0, 1]).divide(Poly([-1, 1])), (Poly([1, 1, 1]), Poly(())))
        self.assertEqual(Poly([1, 0, 4]).divide(Poly([1, 2])), (Poly([-1, 2]), Poly([2])))
        self.assertEqual(Poly([1, 2]).divide(Poly([0, 0, 1])), (Poly(()), Poly([1, 2])))
        self.assertEqual(Poly([1, 2]).divide(Poly([4])), (Poly([ratio("1/4"), ratio("1/2")]), Poly(())))
        self.assertEqual(Poly(()).divide(X), (Poly(()), Poly(())))
        self.assertEqual(Poly([5, 0, 0, 0, 1]).divide(Poly([0, 1])), (Poly([0, 0, 0, 1]), Poly([5])))

    def test_products_are_divided_back(self):
        for p, q in pairs():
            if not q.is_zero():
                self.assertEqual((p * q).divide(q), (p, Poly(())))

    def test_by_zero(self):
        for p in polys():
            for q in (Poly(()), Poly([0, 0]), p - p):
                with self.assertRaises(ZeroDivisor):
                    p.divide(q)


class Text(unittest.TestCase):
    def test_as_they_stand(self):
        for row, text in (((), "0"), ((0, 0), "0"), ((7,), "7"), ((-1,), "-1"), (("1/2",), "1/2"), ((0, 1), "1*x"),
                          ((1, 1), "1 + 1*x"), ((0, -1), "-1*x"), ((0, 0, 1), "1*x^2"), ((1, -2), "1 + -2*x"),
                          ((0, "-3/2", 0, 4), "-3/2*x + 4*x^3"), ((1, 1, 1, 1), "1 + 1*x + 1*x^2 + 1*x^3"),
                          ((5,) + (0,) * 11 + (1,), "5 + 1*x^12")):
            self.assertEqual(str(Poly(vector(*row))), text)

    def test_it_can_be_read_back(self):
        for p in polys():
            row = [Fraction(0)] * (p.degree() + 1)
            for term in str(p).split(" + ") if str(p) != "0" else ():
                q, _, power = term.partition("*")
                row[0 if power == "" else 1 if power == "x" else int(power[2:])] = Fraction(q)
            self.assertEqual(row, plain(p))


class CommonDivisor(unittest.TestCase):
    def check(self, p, q):
        found = common_divisor(p, q)
        self.assertIsInstance(found, Poly)
        if p.is_zero() and q.is_zero():
            self.assertEqual(found, Poly(()))
            return found
        self.assertEqual(found.row[-1], Ratio(1))
        for each in (p, q):
            self.assertTrue(each.divide(found)[1].is_zero())
        self.assertEqual(common_divisor(q, p), found)
        return found

    def test_it_divides_both(self):
        for p, q in pairs():
            self.check(p, q)

    def test_common_divisors_divide_it(self):
        every = list(polys(112, 8))
        for p in every:
            for q in every:
                for r in every:
                    if not r.is_zero():
                        found = self.check(p * r, q * r)
                        self.assertTrue(found.is_zero() or found.divide(r)[1].is_zero())

    def test_it_is_a_combination_of_both(self):
        # A divisor that is a combination of both is a multiple of every common divisor.
        for p, q in pairs():
            found = self.check(p, q)
            u, v, a, b, c, d = p, q, Poly([1]), Poly(()), Poly(()), Poly([1])
            while not v.is_zero():
                quotient, rest = u.divide(v)
                u, v, a, b, c, d = v, rest, c, d, a - quotient * c, b - quotient * d
            self.assertEqual(a * p + b * q, u)
            if not u.is_zero():
                self.assertEqual(u, found * Poly([u.row[-1]]))

    def test_with_zero(self):
        zero = Poly(())
        self.assertEqual(common_divisor(zero, zero), zero)
        for p in polys():
            if not p.is_zero():
                monic = Poly([q.over(p.row[-1]) for q in p.row])
                self.assertEqual(common_divisor(p, zero), monic)
                self.assertEqual(common_divisor(zero, p), monic)
                self.assertEqual(common_divisor(p, p), monic)

    def test_as_they_stand(self):
        self.assertEqual(common_divisor(Poly([-2, 0, 2]), Poly([3, 3])), Poly([1, 1]))
        self.assertEqual(common_divisor(Poly([1, 2, 1]), Poly([-1, 0, 1])), Poly([1, 1]))
        self.assertEqual(common_divisor(Poly([1, 1]), Poly([2, 1])), Poly([1]))
        self.assertEqual(common_divisor(Poly([5]), Poly([0, 0, 7])), Poly([1]))
        self.assertEqual(common_divisor(Poly([0, 0, 2]), Poly([0, 4])), X)

    def test_longer_ones(self):
        p = q = Poly([1])
        for k in range(1, 13):
            p = p * Poly([k, 1])
            q = q * Poly([2 * k, 3])
        self.assertEqual(common_divisor(p, q), Poly([Ratio(2 * 1)] + [1]) * Poly([4, 1]) * Poly([6, 1]) * Poly([8, 1]))

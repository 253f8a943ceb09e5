import unittest
from fractions import Fraction
from math import gcd

from samples import VALUES
from wordweight.errors import NoText, ZeroDivisor
from wordweight.ratio import Ratio, is_integer, one, read_ratio, total, zero

BIG = 10 ** 80 + 7
PAIRS = [(n, d) for n in range(-7, 8) for d in range(-6, 7) if d != 0]
PAIRS += [(BIG, 3), (-BIG, 9), (BIG * 6, BIG * 4), (1, BIG), (-1, -BIG), (2 ** 300, -(6 ** 200)), (0, -BIG)]
SOME = [Ratio(n, d) for n in range(-4, 5) for d in (1, 2, 3, 4)] + [Ratio(BIG, 6), Ratio(-5, BIG)]


def fraction(a):
    return Fraction(a.n, a.d)


def fields(a):
    return (a.n, a.d)


class Numbers(unittest.TestCase):
    def check(self, a, expected):
        self.assertIs(a.__class__, Ratio)
        self.assertEqual(fields(a), (expected.numerator, expected.denominator))

    def test_lowest_terms_and_a_positive_denominator(self):
        for n, d in PAIRS:
            a = Ratio(n, d)
            self.check(a, Fraction(n, d))
            self.assertGreater(a.d, 0)
            self.assertEqual(gcd(a.n, a.d), 1)

    def test_the_four_pairs_of_signs(self):
        self.assertEqual(fields(Ratio(6, 4)), (3, 2))
        self.assertEqual(fields(Ratio(-6, 4)), (-3, 2))
        self.assertEqual(fields(Ratio(6, -4)), (-3, 2))
        self.assertEqual(fields(Ratio(-6, -4)), (3, 2))

    def test_zero_has_the_denominator_1(self):
        for d in (1, -1, 5, -5, BIG, -BIG):
            self.assertEqual(fields(Ratio(0, d)), (0, 1))

    def test_the_denominator_is_1_unless_told(self):
        for n in (0, 1, -1, 12, BIG, -BIG):
            self.assertEqual(fields(Ratio(n)), (n, 1))
        self.assertEqual(fields(Ratio(n=4, d=6)), (2, 3))
        self.assertEqual(fields(Ratio(4, d=6)), (2, 3))

    def test_the_denominator_zero(self):
        for n in (0, 1, -1, BIG):
            with self.assertRaises(ZeroDivisor):
                Ratio(n, 0)

    def test_sums_differences_products(self):
        for a in SOME:
            self.check(-a, -fraction(a))
            for b in SOME:
                self.check(a + b, fraction(a) + fraction(b))
                self.check(a - b, fraction(a) - fraction(b))
                self.check(a * b, fraction(a) * fraction(b))

    def test_inverse_and_over(self):
        for a in SOME:
            if a.n:
                self.check(a.inverse(), 1 / fraction(a))
            for b in SOME:
                if b.n:
                    self.check(a.over(b), fraction(a) / fraction(b))

    def test_inverse_and_over_with_zero(self):
        with self.assertRaises(ZeroDivisor):
            Ratio(0).inverse()
        for a in (Ratio(0), Ratio(1), Ratio(-2, 3)):
            with self.assertRaises(ZeroDivisor):
                a.over(Ratio(0))

    def test_power(self):
        for a in SOME:
            for k in range(-6, 7):
                if a.n or k >= 0:
                    self.check(a.power(k), fraction(a) ** k)
        self.check(Ratio(-2, 3).power(1000), Fraction(-2, 3) ** 1000)
        self.check(Ratio(-2, 3).power(-1001), Fraction(-2, 3) ** -1001)

    def test_power_with_the_exponent_zero(self):
        for a in SOME:
            self.assertEqual(fields(a.power(0)), (1, 1))
        self.assertEqual(fields(Ratio(0).power(0)), (1, 1))

    def test_power_with_a_huge_exponent(self):
        huge = 10 ** 50
        self.assertEqual(fields(Ratio(1).power(huge)), (1, 1))
        self.assertEqual(fields(Ratio(-1).power(huge)), (1, 1))
        self.assertEqual(fields(Ratio(-1).power(-huge - 1)), (-1, 1))
        self.assertEqual(fields(Ratio(0).power(huge)), (0, 1))

    def test_negative_powers_of_zero(self):
        for k in (-1, -2, -(10 ** 30)):
            with self.assertRaises(ZeroDivisor):
                Ratio(0).power(k)

    def test_compare_and_sign(self):
        for a in SOME:
            self.assertEqual(a.sign(), (fraction(a) > 0) - (fraction(a) < 0))
            for b in SOME:
                expected = (fraction(a) > fraction(b)) - (fraction(a) < fraction(b))
                self.assertEqual(a.compare(b), expected)

    def test_floor(self):
        for n, d in PAIRS:
            self.assertEqual(Ratio(n, d).floor(), n // d)
        self.assertEqual(Ratio(-1, 2).floor(), -1)
        self.assertEqual(Ratio(-4).floor(), -4)
        self.assertEqual(Ratio(7, 2).floor(), 3)

    def test_whole_and_is_zero(self):
        for n, d in PAIRS:
            self.assertIs(Ratio(n, d).whole, n % d == 0)
            self.assertIs(Ratio(n, d).is_zero(), n == 0)
        self.assertIsInstance(Ratio.whole, property)

    def test_zero_and_one(self):
        self.check(zero(), Fraction(0))
        self.check(one(), Fraction(1))

    def test_total(self):
        self.check(total([]), Fraction(0))
        self.check(total(()), Fraction(0))
        self.check(total(SOME), sum(fraction(a) for a in SOME))
        self.check(total(tuple(SOME[:7])), sum(fraction(a) for a in SOME[:7]))
        self.check(total([Ratio(1, 2), Ratio(1, 3), Ratio(1, 6)]), Fraction(1))
        self.check(total([Ratio(-5, 7)]), Fraction(-5, 7))

    def test_total_changes_nothing(self):
        numbers = [Ratio(1, 2), Ratio(1, 3)]
        kept = list(numbers)
        total(numbers)
        self.assertEqual(numbers, kept)

    def test_equality(self):
        for a in SOME:
            for b in SOME:
                self.assertIs(a == b, fraction(a) == fraction(b))
                self.assertIs(a != b, fraction(a) != fraction(b))
        self.assertTrue(Ratio(2, 4) == Ratio(-1, -2))
        self.assertFalse(Ratio(1, 2) == Ratio(1, 3))
        self.assertFalse(Ratio(1, 2) == Ratio(3, 2))

    def test_equality_with_values_of_other_kinds(self):
        for a in (Ratio(0), Ratio(1), Ratio(1, 2), Ratio(-1)):
            for value in VALUES:
                if not isinstance(value, Ratio):
                    self.assertIs(a == value, False)
                    self.assertIs(value == a, False)

    def test_operands_are_the_same_afterwards(self):
        for n, d in ((3, 4), (-2, 5), (1, 1)):
            for m, e in ((5, 6), (-7, 1)):
                a, b = Ratio(n, d), Ratio(m, e)
                a + b, a - b, a * b, -a, a == b, str(a)
                a.inverse(), a.over(b), a.power(3), a.power(-2), a.compare(b), a.sign(), a.floor(), a.whole
                a.is_zero(), total([a, b])
                self.assertEqual((fields(a), fields(b)), ((n, d), (m, e)))


class IsInteger(unittest.TestCase):
    def test_integers(self):
        for value in (0, 1, -1, 2, 10 ** 100, -(10 ** 100)):
            self.assertIs(is_integer(value), True)

    def test_other_values(self):
        for value in VALUES:
            expected = isinstance(value, int) and value is not True and value is not False
            self.assertIs(is_integer(value), expected, value)
        self.assertIs(is_integer(True), False)
        self.assertIs(is_integer(False), False)


class WrittenForm(unittest.TestCase):
    def test_small_numbers(self):
        told = {(0, 1): "0", (1, 1): "1", (-1, 1): "-1", (12, 1): "12", (-30, 1): "-30", (1, 2): "1/2",
                (-1, 2): "-1/2", (10, 4): "5/2", (-100, 7): "-100/7", (0, 9): "0", (20, 10): "2", (7, -10): "-7/10"}
        for (n, d), text in told.items():
            self.assertEqual(str(Ratio(n, d)), text)
            self.assertEqual(fields(read_ratio(text)), fields(Ratio(n, d)))

    def test_there_and_back(self):
        for n, d in PAIRS:
            a = Ratio(n, d)
            self.assertEqual(str(a), str(Fraction(n, d)))
            self.assertEqual(fields(read_ratio(str(a))), fields(a))

    def test_lengths_near_the_blocks(self):
        for length in (1, 2, 18, 19, 59, 60, 61, 119, 120, 121, 179, 180, 181, 240, 241, 300, 301, 900, 4000):
            for n in (10 ** length, 10 ** length - 1, 10 ** length + 1, int("1234567890" * 400) % 10 ** length + 1):
                for a in (Ratio(n), Ratio(-n), Ratio(1, n), Ratio(n, n + 1)):
                    expected = str(a.n) if a.d == 1 else str(a.n) + "/" + str(a.d)
                    self.assertEqual(str(a), expected)
                    self.assertEqual(fields(read_ratio(expected)), fields(a))

    def test_more_than_5000_digits(self):
        for length in (5001, 5280, 7681, 20000):
            upper = "7" + "0" * (length - 2) + "1"
            n = 7 * 10 ** (length - 1) + 1
            self.assertEqual(str(Ratio(n)), upper)
            self.assertEqual(str(Ratio(-n)), "-" + upper)
            self.assertEqual(str(Ratio(1, n)), "1/" + upper)
            self.assertEqual(str(Ratio(-(10 ** length), n)), "-1" + "0" * length + "/" + upper)
            for text, a in ((upper, Ratio(n)), ("-" + upper, Ratio(-n)), ("1/" + upper, Ratio(1, n)),
                            ("-1" + "0" * length + "/" + upper, Ratio(-(10 ** length), n))):
                self.assertEqual(fields(read_ratio(text)), fields(a))

    def test_texts_that_are_no_written_form(self):
        texts = (
            "", "-", "/", "-/", "1/", "/2", "-1/", "-/2", "1//2", "1/2/3", "/1/2", "1/2/",
            "00", "01", "-01", "-0", "0/1", "0/2", "-0/2", "00/1", "01/2", "1/02", "-1/02", "000", "1/00",
            "+1", "+0", "--1", "-+1", "1/-2", "-1/-2", "1/+2", "1-", "1/2-",
            " 1", "1 ", " ", "- 1", "1 /2", "1/ 2", "1\n", "\n1", "\t1", "1_0", "1_000", "_1",
            "2/4", "-2/4", "4/2", "-4/2", "6/9", "10/5", "3/3", "12/18", "1/0", "0/0", "-1/0", "5/1", "-5/1", "1/1",
            "1.0", "1.", ".5", "1e3", "1e", "0x1", "0b1", "1,2", "1:2", "a", "1a", "a1", "1/a", "one", "1/2a",
            "\u0661", "1/\u0662", "\u00b2", "\u0967", "\uff11", "1\u0660", "\u22121", "\u2155", "1\u20442", "inf", "nan",
        )
        for text in texts:
            with self.assertRaises(NoText, msg=repr(text)) as caught:
                read_ratio(text)
            self.assertEqual(caught.exception.at, 0, repr(text))

    def test_long_texts_that_are_no_written_form(self):
        many = "3" * 5001
        for text in ("0" + many, "-0" + many, many + "/" + many, many + "/1", many + "/0", many + " ", "+" + many,
                     many + "/3", many[:100] + "\u0663" + many, "0" * 6000, "1/0" + many, many + "x", "3/" + many):
            with self.assertRaises(NoText) as caught:
                read_ratio(text)
            self.assertEqual(caught.exception.at, 0)

    def test_every_value_that_is_no_string(self):
        for value in VALUES:
            if not isinstance(value, str):
                with self.assertRaises(NoText, msg=repr(value)) as caught:
                    read_ratio(value)
                self.assertEqual(caught.exception.at, 0)

    def test_strings_among_the_values(self):
        for value in VALUES:
            if isinstance(value, str) and value not in ("1", "0", "-1", "1/2"):
                with self.assertRaises(NoText):
                    read_ratio(value)

import unittest
from fractions import Fraction
from itertools import combinations, product

from samples import Choices, any_expression
from wordweight.errors import Refused
from wordweight.expression import Expression, letter_of, number, word_of
from wordweight.meaning import empty_weight, is_defined, weight
from wordweight.ratio import Ratio
from wordweight.text import read, show

A, B, C = letter_of("a"), letter_of("b"), letter_of("c")


def words(letters, most):
    return ["".join(word) for length in range(most + 1) for word in product(letters, repeat=length)]


def all_divisions(word):
    """The tuples of words that are not empty, whose concatenation is the word."""
    if word == "":
        return [()]
    return [(word[:at], *rest) for at in range(1, len(word) + 1) for rest in all_divisions(word[at:])]


def all_sortings(word):
    """One pair for each set of indexes."""
    found = []
    for many in range(len(word) + 1):
        for chosen in combinations(range(len(word)), many):
            found.append(("".join(a for i, a in enumerate(word) if i in chosen),
                          "".join(a for i, a in enumerate(word) if i not in chosen)))
    return found


def by_table(e, word):
    """The weight by the table of the document, for a defined expression."""
    if e.kind == "number":
        return Fraction(e.parts[0].n, e.parts[0].d) if word == "" else Fraction(0)
    if e.kind == "letter":
        return Fraction(1 if word == e.parts[0] else 0)
    f, g = e.parts[0], e.parts[-1]
    if e.kind == "sum":
        return by_table(f, word) + by_table(g, word)
    if e.kind == "product":
        return sum(by_table(f, word[:at]) * by_table(g, word[at:]) for at in range(len(word) + 1))
    if e.kind == "star":
        return sum(multiplied(by_table(f, part) for part in parts) for parts in all_divisions(word))
    if e.kind == "both":
        return by_table(f, word) * by_table(g, word)
    if e.kind == "shuffle":
        return sum(by_table(f, u) * by_table(g, v) for u, v in all_sortings(word))
    return by_table(g, {"left": str(f) + word, "right": word + str(f), "reverse": word[::-1]}[e.kind])


def multiplied(numbers):
    found = Fraction(1)
    for each in numbers:
        found *= each
    return found


def defined_by_table(e):
    """All stars are defined: their operands, defined themselves, give the empty word the weight 0."""
    if not all(defined_by_table(part) for part in e.parts if isinstance(part, Expression)):
        return False
    return e.kind != "star" or by_table(e.parts[0], "") == 0


class Test(unittest.TestCase):
    def weighs(self, text, weights):
        e = read(text)
        for word, expected in weights.items():
            n, _, d = str(expected).partition("/")
            self.assertEqual(weight(e, word), Ratio(int(n), int(d or "1")), (text, word))

    def refused(self, e):
        self.assertIs(is_defined(e), False)
        for word in ("", "a", "b", "ab", "z"):
            with self.assertRaises(Refused, msg=show(e)) as caught:
                weight(e, word)
            self.assertEqual(caught.exception.reason, "star")
        with self.assertRaises(Refused, msg=show(e)) as caught:
            empty_weight(e)
        self.assertEqual(caught.exception.reason, "star")


class Kinds(Test):
    def test_number(self):
        self.weighs("-1/2", {"": "-1/2", "a": 0, "z": 0, "aa": 0})
        self.weighs("0", {"": 0, "a": 0})

    def test_letter(self):
        self.weighs("a", {"": 0, "a": 1, "b": 0, "aa": 0, "ab": 0, "z": 0})

    def test_sum(self):
        self.weighs("a + 2 + a + b + -1/2", {"": "3/2", "a": 2, "b": 1, "c": 0, "ab": 0})

    def test_product(self):
        self.weighs("a b", {"ab": 1, "ba": 0, "a": 0, "": 0, "abb": 0})
        self.weighs("2 a 1/3", {"a": "2/3", "": 0})
        self.weighs("(a + 1) (a + 1)", {"": 1, "a": 2, "aa": 1, "aaa": 0})
        self.weighs("a* a*", {"": 1, "a": 2, "aaa": 4, "ab": 0})
        self.weighs("(a + 2) (b + 3)", {"": 6, "a": 3, "b": 2, "ab": 1, "ba": 0})

    def test_star(self):
        self.weighs("a*", {"": 1, "a": 1, "aaaa": 1, "b": 0, "ab": 0})
        self.weighs("(a + 2 b)*", {"": 1, "abb": 4, "bab": 4, "c": 0})
        self.weighs("(a + a a)*", {"a": 1, "aa": 2, "aaa": 3, "aaaa": 5, "aaaaaaaa": 34})
        self.weighs("0*", {"": 1, "a": 0})
        self.weighs("(a b)*", {"": 1, "ab": 1, "abab": 1, "ba": 0, "aba": 0})
        self.weighs("(1 + -1 + a)*", {"aa": 1})

    def test_both(self):
        self.weighs("(2 a + 3 b) & (5 a + 7)", {"": 0, "a": 10, "b": 0})
        self.weighs("3 & 1/2", {"": "3/2", "a": 0})
        self.weighs("(2 a)* & (3 a)*", {"": 1, "aa": 36})

    def test_shuffle(self):
        self.weighs("a # b", {"ab": 1, "ba": 1, "a": 0, "": 0, "aab": 0})
        self.weighs("a # a", {"aa": 2})
        self.weighs("a # a # a", {"aaa": 6, "aa": 0})
        self.weighs("a* # b", {"b": 1, "aab": 1, "aba": 1, "abab": 0})
        self.weighs("a* # a*", {"": 1, "a": 2, "aaaaa": 32})
        self.weighs("a b # c", {"cab": 1, "acb": 1, "abc": 1, "bac": 0})
        self.weighs("2 # a", {"a": 2, "": 0})

    def test_left_and_right(self):
        self.weighs("[a:](a b + 2 b a)", {"b": 1, "a": 0, "": 0})
        self.weighs("[:a](a b + 2 b a)", {"b": 2, "a": 0, "": 0})
        self.weighs("[ab:](a b c)", {"c": 1, "": 0, "abc": 0})
        self.weighs("[:bc](a b c)", {"a": 1, "": 0, "abc": 0})
        self.weighs("[ab:](a b)", {"": 1, "a": 0})
        self.weighs("[ab:](b a)", {"": 0})
        self.weighs("[a:][b:](b a c)", {"c": 1})
        self.weighs("[a:][b:](a b c)", {"c": 0})
        self.weighs("[:a][:b](c b a + 2 c a b)", {"c": 2})
        self.weighs("[:b][:a](c b a + 2 c a b)", {"c": 1})
        self.weighs("[a:]a b", {"b": 1, "ab": 0})
        self.weighs("[z:]a*", {"": 0, "a": 0})
        self.weighs("[abcdefgh:](a + b + c + d + e + f + g + h)*", {"": 1, "hg": 1, "z": 0})

    def test_reverse(self):
        self.weighs("~(a b c)", {"cba": 1, "abc": 0})
        self.weighs("~(a b*)", {"bba": 1, "a": 1, "abb": 0, "": 0})
        self.weighs("~[a:](a b c)", {"cb": 1, "bc": 0})

    def test_of_the_document(self):
        self.assertEqual(str(weight(read("(a + 2 b)*"), "abb")), "4")
        self.assertEqual(str(weight(read("a # a"), "aa")), "2")

    def test_kind_of_the_weights(self):
        for e in (number(2), A, A + B, A * B, A.star(), A & B, A ^ B, A.left("ab"), A.right("ab"), A.reverse()):
            self.assertIsInstance(empty_weight(e), Ratio)
            for word in ("", "a", "ab", "q"):
                self.assertIsInstance(weight(e, word), Ratio)


class Table(Test):
    def test_one_operation_of_each_kind(self):
        operands = [A, B, number(Ratio(3, 2)), A + number(2), word_of("ab"), (A + B).star(),
                    (A * B + number(Ratio(-1, 3)) * A).star(), A.star() * number(2)]
        for e, f in product(operands, repeat=2):
            for made in (e + f, e * f, e & f, e ^ f):
                self.check(made, "ab", 4)
        for e in operands:
            for made in (e.star(), e.reverse(), e.left("a"), e.right("a"), e.left("ba"), e.right("ba")):
                if defined_by_table(made):
                    self.check(made, "abc", 3)
                else:
                    self.refused(made)

    def test_any_expression(self):
        choices = Choices(23)
        many = 0
        for _ in range(500):
            e = any_expression(choices, 4)
            if defined_by_table(e):
                self.check(e, "abc", 2)
                self.check(e, "a", 4)
                many += 1
            else:
                self.refused(e)
        self.assertGreater(many, 200)

    def check(self, e, letters, most):
        self.assertIs(is_defined(e), True)
        self.assertEqual(Fraction(empty_weight(e).n, empty_weight(e).d), by_table(e, ""), show(e))
        for word in words(letters, most):
            found = weight(e, word)
            self.assertEqual(Fraction(found.n, found.d), by_table(e, word), (show(e), word))

    def test_longer_words(self):
        for text, word, expected in (
            ("(a + b)* # (a + b)*", "abababab", 256), ("(a + b)* (a + b)* (a + b)*", "abbaabba", 45),
            ("(a + a a + a a a)*", "a" * 12, 927), ("(a* # b*) & (a + b)*", "ab" * 5, 1), ("a* b a*", "a" * 20 + "b" + "a" * 20, 1),
            ("((a + b) (a + b))*", "ab" * 20, 1), ("((a + b) (a + b))*", "ab" * 20 + "a", 0), ("~(a* b*)", "b" * 9 + "a" * 9, 1),
        ):
            self.weighs(text, {word: expected})

    def test_deep_expressions(self):
        e = A.star()
        for at in range(38):
            e = (e + number(0), e * number(1), e & (A + B).star(), e ^ number(1), e.left("a"), e.right("a"), e.reverse())[at % 7]
        self.assertEqual(e.depth(), 40)
        self.assertEqual([weight(e, word) for word in ("", "a", "aaa", "b", "ab")], [Ratio(n) for n in (1, 1, 1, 0, 0)])
        e = A * B
        for _ in range(38):
            e = e.reverse()
        self.assertEqual((weight(e, "ab"), weight(e, "ba")), (Ratio(1), Ratio(0)))
        e = A
        for _ in range(19):
            e = A * e.star()
        self.assertEqual(e.depth(), 39)
        # The words count the trees with one node for each letter, as far as the depth lets them.
        self.assertEqual([weight(e, "a" * many) for many in range(1, 8)], [Ratio(n) for n in (1, 1, 2, 5, 14, 42, 132)])


class Undefined(Test):
    STARS = (number(1).star(), number(Ratio(-1, 2)).star(), (A + number(1)).star(), A.star().star(), (A.star() * B.star()).star(),
             A.left("a").star(), A.right("a").star(), word_of("ab").left("ab").star(), (A & A).left("a").star(),
             number(2).reverse().star(), (number(2) ^ number(3)).star(), (A.star() & B.star()).star())

    def test_stars(self):
        for star in self.STARS:
            self.refused(star)

    def test_anywhere(self):
        for star in self.STARS:
            for e in (star + A, A + star, star * A, A * star, star & A, A & star, star ^ A, A ^ star, star.reverse(),
                      star.left("a"), star.right("ab"), (A * star).star(), (star * A).star()):
                self.refused(e)
                self.refused((B * e).reverse() + A)

    def test_multiplied_by_0(self):
        nothing = number(0)
        for star in self.STARS:
            for e in (nothing * star, star * nothing, nothing & star, star & nothing, nothing ^ star, star ^ nothing,
                      (nothing * star).star(), (star & nothing).star(), (A * star).left("b"),
                      star + nothing):
                self.refused(e)

    def test_in_the_operand_of_a_star(self):
        self.refused((number(1).star() * number(0)).star())
        self.refused((A * number(1).star()).star().star())
        self.refused((number(0) * A.star().star()).star())

    def test_deep_ones(self):
        e = number(1).star()
        for at in range(38):
            e = (A * e, e.star(), e.left("ab"), e & A, A ^ e, e.right("b"), e + A, e.reverse())[at % 8]
        self.assertEqual(e.depth(), 40)
        self.refused(e)

    def test_defined_ones(self):
        for text in ("a*", "0*", "(a + b)*", "(a b*)*", "(1 & a)*", "(2 # a)*", "([a:]b)*", "([a:](a b))*", "([:b](a b))*",
                     "(1 + -1)*", "(a* + -1)*", "(a* & (b + 1) & a)*", "(0 a*)*", "(~a)*", "((1/2 + -1/2) a*)*", "a + b c"):
            e = read(text)
            self.assertIs(is_defined(e), True, text)
            self.assertEqual(empty_weight(e), Ratio(0 if text == "a + b c" else 1))

    def test_words_decide(self):
        self.assertIs(is_defined(read("([a:]a)*")), False)
        self.assertIs(is_defined(read("([a:]b)*")), True)
        self.assertIs(is_defined(read("([ab:](a b))*")), False)
        self.assertIs(is_defined(read("([ba:](a b))*")), True)
        self.assertIs(is_defined(read("([ba:]~(a b))*")), False)
        self.assertIs(is_defined(read("([a:][b:](b a))*")), False)
        self.assertIs(is_defined(read("([b:][a:](b a))*")), True)
        self.assertIs(is_defined(read("([ab:](a + -1 b)*)*")), False)
        self.assertIs(is_defined(read("([ab:](a b + -1 a*b*))*")), True)


class Empty(Test):
    def test_weights(self):
        for text, expected in (("3/4", "3/4"), ("a", 0), ("a + 2 + 1/2", "5/2"), ("2 3", 6), ("2 & 3", 6), ("2 # 3", 6),
                               ("a*", 1), ("~5", 5), ("[a:]a", 1), ("[:ab](a b + 2)", 1), ("[a:]b", 0), ("a b", 0),
                               ("2 a* 3 b*", 6), ("[abcdefgh:](a b c d e f g h)*", 1), ("(2 + a) # (3 + b)", 6)):
            e = read(text)
            self.assertEqual(str(empty_weight(e)), str(expected), text)
            self.assertEqual(empty_weight(e), weight(e, ""))

    def test_arguments_stay(self):
        e = read("([a:](a b + b a))* # ~(a + 2)")
        before = show(e)
        self.assertEqual(weight(e, "ab"), weight(e, "ab"))
        self.assertEqual((is_defined(e), is_defined(e)), (True, True))
        self.assertEqual(show(e), before)
        self.assertEqual(e, read(before))

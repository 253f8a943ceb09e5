import inspect
import unittest

from samples import Choices, all_words, any_expression, series
from test_meaning import by_table
from wordweight.build import build
from wordweight.errors import Refused
from wordweight.expression import Expression, letter_of, number, word_of
from wordweight.machine import Machine, constant, letter
from wordweight.ratio import Ratio
from wordweight.text import read, show
from wordweight.words import Alphabet

A, B, C = letter_of("a"), letter_of("b"), letter_of("c")


def size_of(e):
    """The size of the machine of an expression, if there is no bound."""
    sizes = [size_of(part) for part in e.parts if isinstance(part, Expression)]
    if e.kind in ("both", "shuffle"):
        return sizes[0] * sizes[1]
    return sum(sizes) + {"number": 1, "letter": 2, "star": 1}.get(e.kind, 0)


def refusal(e, letters, most):
    """The reason for which the building is refused first, or None."""
    if e.kind in ("letter", "left", "right") and any(a not in letters for a in e.parts[0]):
        return "letter"
    for part in e.parts:
        if isinstance(part, Expression):
            found = refusal(part, letters, most)
            if found is not None:
                return found
    if e.kind == "star" and by_table(e.parts[0], "") != 0:
        return "star"
    return "size" if size_of(e) > most else None


class Test(unittest.TestCase):
    def check(self, e, letters="ab", size=None, most=60):
        """The size and the weights of the machine of an expression or a text."""
        if isinstance(e, str):
            e = read(e)
        found = build(e, Alphabet(letters), most=most)
        self.assertIsInstance(found, Machine)
        self.assertEqual(found.alphabet, Alphabet(letters))
        self.assertEqual(found.size(), size_of(e), show(e))
        for matrix in found.matrices:
            self.assertEqual([len(row) for row in matrix.rows], [found.size()] * found.size())
        if size is not None:
            self.assertEqual(found.size(), size, show(e))
        weight = series(found)
        for word in all_words(letters, {1: 5, 2: 4, 3: 3, 4: 2}[len(letters)]):
            self.assertEqual(weight(word), by_table(e, word), (show(e), word))

    def refuses(self, reason, text, letters="ab", most=60):
        e = read(text) if isinstance(text, str) else text
        with self.assertRaises(Refused, msg=show(e)) as caught:
            build(e, Alphabet(letters), most=most)
        self.assertEqual(caught.exception.reason, reason, show(e))


class Kinds(Test):
    def test_numbers_and_letters(self):
        for letters in ("a", "ba", "dbca"):
            for q in (0, 1, Ratio(-7, 3)):
                self.check(number(q), letters, 1)
            for a in letters:
                self.check(letter_of(a), letters, 2)

    def test_each_operation(self):
        self.check("a + 2 b", size=5)
        self.check("a b", size=4)
        self.check("2 a -1/2", size=4)
        self.check("a*", size=3)
        self.check("(2 a + b a)*", size=8)
        self.check("(a + b)* & (a b)*", size=25)
        self.check("(a + 3 b a) & (2 a + b a)", size=49)
        self.check("a b # a", size=8)
        self.check("(a + 2 b) # (a + 1/2)", size=15)
        self.check("[a:](a b + 2 a a)", size=9)
        self.check("[:ab](b a b + 2 a b)", size=11)
        self.check("[ab:](a b b + 2 b a b)", size=13)
        self.check("[:b](a b b + 2 b a b)", size=13)
        self.check("~(a b + 2 b b a)", size=11)
        self.check("~([ab:](a b)* a)", size=7)

    def test_empty_words_count(self):
        self.check("(a + 2) (b + 3)", size=6)
        self.check("(a + 2) # (b + 3)", size=9)
        self.check("(a + 2) & (b + 3)", size=9)
        self.check("(a + 2 + -2)*", size=5)

    def test_other_alphabets(self):
        for letters in ("ba", "abc", "cba", "bdca"):
            self.check("(a + 2 b)* a # b", letters)
            self.check("[b:]((a + 2 b)* a) & ~(a* b a)", letters)
        self.check("(a a)*", "a", 5)
        self.check("0", "z", 1)

    def test_many_expressions(self):
        choices = Choices(21)
        built = 0
        for _ in range(250):
            e = any_expression(choices, 4)
            if refusal(e, "abc", 30) is None:
                built += e.depth() > 2
                self.check(e, "abc", most=30)
        self.assertGreater(built, 40)

    def test_deep_expressions(self):
        e = A
        for k in range(39):
            e = (e.reverse(), e.left("a"), e.right("b"), e + number(0))[k % 4]
        self.check(e, most=60)
        e = A.star()
        for _ in range(60):
            e = e.reverse()
        self.check(e, size=3)

    def test_equal_results(self):
        e = read("(a + 2 b)* & ~(a b)*")
        self.assertEqual(build(e, Alphabet("ab")), build(read(show(e)), Alphabet("ab")))
        self.assertEqual(show(e), "(a + 2 b)* & ~(a b)*")

    def test_the_size_is_bounded_by_keyword(self):
        self.assertEqual(str(inspect.signature(build)), "(expression, alphabet, *, most=60)")
        with self.assertRaises(TypeError):
            build(A, Alphabet("a"), 60)


class Letters(Test):
    def test_none_of_the_alphabet(self):
        self.refuses("letter", "c")
        self.refuses("letter", "a + c")
        self.refuses("letter", "a", "b")
        self.refuses("letter", "a* b & ~(b # c)")
        self.check("a", "ca", 2)

    def test_in_the_word_of_left_and_right(self):
        for word in ("c", "ac", "ca", "abca", "aaaaaaac"):
            self.refuses("letter", f"[{word}:]a")
            self.refuses("letter", f"[:{word}]a")
        self.check("[abababab:](a b)", size=4)
        self.check("[:abab](a + b)*")

    def test_the_word_before_the_operand(self):
        for brackets in ("[c:]", "[:c]", "[ac:]", "[:ac]"):
            self.refuses("letter", brackets + "1*")
            self.refuses("letter", brackets + "a", most=1)
            self.refuses("letter", brackets + "1", most=0)
        for brackets in ("[a:]", "[:a]"):
            self.refuses("star", brackets + "1*")
            self.refuses("size", brackets + "a", most=1)
            self.refuses("letter", brackets + "c")


class Stars(Test):
    def test_of_series_that_are_not_proper(self):
        for text in ("1*", "(a + 1)*", "a**", "(a* & a*)*", "(a* # b*)*", "~(a + 2)*", "[a:](a*)*", "([a:]a)*",
                     "([:b](a b + b))*", "(2 + a + -1)*", "(1/3 (3 + a))*"):
            self.refuses("star", text)

    def test_of_proper_series(self):
        for text in ("0*", "(a* + -1)*", "(1 + a + -1)*", "(a b*)*", "([a:](a b))*", "(a* & b)*", "(~(a b))*"):
            self.check(text)

    def test_in_any_operand(self):
        for text in ("0 & 1*", "1* & 0", "0 1*", "1* 0", "0 # 1*", "a + 1*", "1* + a", "~1*", "[a:]1*"):
            self.refuses("star", text)


class Sizes(Test):
    def at_the_bound(self, text, size):
        e = read(text)
        for most in (size, size + 1, size + 100, 10 ** 30):
            self.check(e, size=size, most=most)
        for most in (size - 1, 1, 0, -1):
            if most < size:
                self.refuses("size", e, most=most)

    def test_at_numbers_and_letters(self):
        self.at_the_bound("7", 1)
        self.at_the_bound("a", 2)

    def test_at_operations(self):
        self.at_the_bound("a + b", 4)
        self.at_the_bound("a b", 4)
        self.at_the_bound("a*", 3)
        self.at_the_bound("a b & b b", 16)
        self.at_the_bound("(a + 1) # b", 6)
        self.at_the_bound("~a", 2)
        self.at_the_bound("[a:](a b)", 4)
        self.at_the_bound("[:ab](a b)", 4)

    def test_at_an_operand_that_the_operation_would_make_no_larger(self):
        self.refuses("size", "1 & (a + b)", most=3)
        self.check("1 & (a + b)", size=4, most=4)
        self.refuses("size", "1 & 1 & a", most=1)

    def test_the_bound_that_is_told_by_default(self):
        big = word_of("ab" * 15)
        self.assertEqual(build(big, Alphabet("ab")).size(), 60)
        for e in (big + number(0), big * number(1), (big * A).reverse()):
            with self.assertRaises(Refused) as caught:
                build(e, Alphabet("ab"))
            self.assertEqual(caught.exception.reason, "size")
        with self.assertRaises(Refused):
            build(word_of("aaaa") & word_of("aaaa"), Alphabet("ab"))

    def test_large_machines_are_not_made(self):
        e = word_of("aaaa").star()
        for _ in range(30):
            e = e & e
            self.refuses("size", e)
            e = e ^ e
            self.refuses("size", e)
            e = e.parts[0].parts[0]
        big = word_of("a" * 30)
        self.refuses("size", (big & big) & (big & big))
        self.refuses("size", big & big & big & big & big & big & big & big)


class Orders(Test):
    def test_letter_before_size_at_one_node(self):
        for most in (1, 0, -1):
            self.refuses("letter", "c", most=most)
            self.refuses("size", "a", most=most)

    def test_star_before_size_at_one_node(self):
        self.refuses("star", "1*", most=1)
        self.refuses("star", "(a + 1)*", most=3)
        self.refuses("size", "(a + 1)*", most=2)
        self.refuses("size", "1*", most=0)
        self.refuses("size", "0*", most=1)

    def test_from_the_left_to_the_right(self):
        for sign in (" + ", " ", " & ", " # "):
            self.refuses("star", "1*" + sign + "c")
            self.refuses("letter", "c" + sign + "1*")
            self.refuses("size", "(a + b)" + sign + "1*", most=3)
            self.refuses("star", "1*" + sign + "(a + b)", most=3)
            self.refuses("size", "(a + b)" + sign + "c", most=3)
            self.refuses("letter", "c" + sign + "(a + b)", most=3)

    def test_operands_before_their_node(self):
        self.refuses("letter", "(1 + c)*")
        self.refuses("size", "(1 + a)*", most=2)
        self.refuses("letter", "(1 & 1 & 1 + c) & a a", most=2)
        self.refuses("star", "a + 1*", most=2)

    def test_many_expressions(self):
        choices = Choices(22)
        met = {"letter": 0, "star": 0, "size": 0, None: 0}
        for _ in range(3000):
            e = any_expression(choices, 5)
            if size_of(e) > 10 ** 4:
                continue
            letters = choices.of(("ab", "abc", "cba", "c", "dacb"))
            most = choices.below(12)
            reason = refusal(e, letters, most)
            met[reason] += 1
            if reason is None:
                self.assertEqual(build(e, Alphabet(letters), most=most).size(), size_of(e))
            else:
                self.refuses(reason, e, letters, most)
        self.assertGreater(min(met.values()), 30, met)


class Examples(Test):
    def test_star_of_the_number_one(self):
        self.refuses("star", "1*")

    def test_of_the_chapter(self):
        ab = Alphabet("ab")
        for text, weights in (("a*", {"a" * k: 1 for k in range(5)}),
                              ("a* a*", {"a" * k: k + 1 for k in range(5)}),
                              ("a # b", {"ab": 1, "ba": 1}), ("a # a", {"aa": 2}), ("[a:](a b)", {"b": 1})):
            weight = series(build(read(text), ab))
            for word in all_words("ab", 4):
                self.assertEqual(weight(word), weights.get(word, 0), (text, word))

    def test_the_smallest_ones_are_those_of_chapter_two(self):
        ab = Alphabet("ab")
        self.assertEqual(build(number(3), ab), constant(ab, Ratio(3)))
        self.assertEqual(build(B, ab), letter(ab, "b"))

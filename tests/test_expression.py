import unittest

from samples import VALUES
from wordweight.errors import Malformed
from wordweight.expression import Expression, is_expression, letter_of, number, word_of
from wordweight.ratio import Ratio

SMALL = "abcdefghijklmnopqrstuvwxyz"
A, B, TWO = letter_of("a"), letter_of("b"), number(2)

# An expression of each kind, made in its own way, with its kind and its parts.
KINDS = (
    (number(Ratio(-1, 2)), "number", (Ratio(-1, 2),)),
    (letter_of("q"), "letter", ("q",)),
    (A + TWO, "sum", (A, TWO)),
    (A * TWO, "product", (A, TWO)),
    (A.star(), "star", (A,)),
    (A & TWO, "both", (A, TWO)),
    (A ^ TWO, "shuffle", (A, TWO)),
    (A.left("ab"), "left", ("ab", A)),
    (A.right("ab"), "right", ("ab", A)),
    (A.reverse(), "reverse", (A,)),
)

NO_WORDS = ("", "abcdefghi", "a" * 9, "a" * 2000, "A", "aB", "a b", " a", "a ", "a1", "-", "a\n", "\n", "a-", "`", "{",
            "\u00e4", "a\u00df", "\uff41")


def chain(depth):
    """An expression of a depth, with one letter for each level above the first one."""
    found = A
    while found.depth() < depth:
        found = found * B
    return found


def tree(depth):
    """A sum of equal halves: the depth d has the count 2^d - 1."""
    return A if depth == 1 else tree(depth - 1) + tree(depth - 1)


def wide(count):
    """An expression of a count with a small depth."""
    row = [letter_of(SMALL[at * 7 % 26]) for at in range((count + 1) // 2)]
    while len(row) > 1:
        row = [row[at] + row[at + 1] if at + 1 < len(row) else row[at] for at in range(0, len(row), 2)]
    return row[0] if row[0].count() == count else row[0].star()


class Making(unittest.TestCase):
    def test_kind_and_parts(self):
        for e, kind, parts in KINDS:
            self.assertIsInstance(e, Expression)
            self.assertIs(type(e.kind), str)
            self.assertEqual(e.kind, kind)
            self.assertIs(type(e.parts), tuple)
            self.assertEqual(e.parts, parts)

    def test_operands_in_their_order(self):
        for e, kind in ((A + B, "sum"), (A * B, "product"), (A & B, "both"), (A ^ B, "shuffle")):
            self.assertEqual((e.kind, e.parts), (kind, (A, B)))

    def test_number_of_ratios_and_integers(self):
        for q in (Ratio(0), Ratio(3, 4), Ratio(10 ** 70, 7), Ratio(-5)):
            self.assertEqual(number(q).parts, (q,))
        for n in (0, 1, -1, 12, -10 ** 80):
            self.assertIsInstance(number(n).parts[0], Ratio)
            self.assertEqual(number(n).parts, (Ratio(n),))
            self.assertEqual(number(n), number(Ratio(n)))

    def test_letter_of(self):
        for a in SMALL:
            self.assertEqual((letter_of(a).kind, letter_of(a).parts), ("letter", (a,)))

    def test_letter_of_every_other_value(self):
        for value in VALUES + NO_WORDS + ("ab", "A", "Z", b"a"):
            if not (isinstance(value, str) and len(value) == 1 and value in SMALL):
                with self.assertRaises(Malformed, msg=repr(value)):
                    letter_of(value)

    def test_left_and_right(self):
        for u in ("a", "z", "ab", "ba", "aaaaaaaa", "abcdefgh", SMALL[-8:]):
            self.assertEqual((A.left(u).kind, A.left(u).parts), ("left", (u, A)))
            self.assertEqual((A.right(u).kind, A.right(u).parts), ("right", (u, A)))

    def test_left_and_right_of_every_other_value(self):
        for value in VALUES + NO_WORDS + (b"a", ("a",), ["a"], letter_of("a")):
            if not (isinstance(value, str) and 1 <= len(value) <= 8 and set(value) <= set(SMALL)):
                with self.assertRaises(Malformed, msg=repr(value)):
                    A.left(value)
                with self.assertRaises(Malformed, msg=repr(value)):
                    A.right(value)

    def test_word_of(self):
        self.assertEqual(word_of(""), number(1))
        self.assertEqual(word_of("q"), letter_of("q"))
        self.assertEqual(word_of("ab"), A * B)
        self.assertEqual(word_of("abb"), (A * B) * B)
        self.assertEqual(word_of("abba"), ((A * B) * B) * A)
        self.assertNotEqual(word_of("abb"), A * (B * B))
        self.assertEqual((word_of("a" * 200).depth(), word_of("a" * 200).count()), (200, 399))

    def test_operands_stay(self):
        e = A + B
        made = [e + e, e * e, e & e, e ^ e, e.star(), e.reverse(), e.left("a"), e.right("b")]
        self.assertEqual(e, letter_of("a") + letter_of("b"))
        self.assertEqual((e.kind, e.depth(), e.count(), len(made)), ("sum", 2, 3, 8))


class Measures(unittest.TestCase):
    def test_depth(self):
        for e, kind, _ in KINDS:
            self.assertEqual(e.depth(), 1 if kind in ("number", "letter") else 2, kind)
        self.assertEqual((A + B * B).depth(), 3)
        self.assertEqual((B * B + A).depth(), 3)
        self.assertEqual((A.star().star() & B.reverse()).depth(), 4)
        self.assertEqual(A.left("abc").right("a").star().reverse().depth(), 5)

    def test_count(self):
        for e, kind, _ in KINDS:
            expected = {"number": 1, "letter": 1, "star": 2, "left": 2, "right": 2, "reverse": 2}.get(kind, 3)
            self.assertEqual(e.count(), expected, kind)
        self.assertEqual((A + B * B).count(), 5)
        self.assertEqual(((A + A) ^ (A + A)).count(), 7)
        self.assertEqual(A.left("abcdefgh").right("abcdefgh").star().count(), 4)

    def test_used_letters(self):
        for e, expected in (
            (number(3), ""), (A, "a"), (B + A, "ab"), (letter_of("z") * (B ^ A) * B, "abz"), (A.left("zc"), "acz"),
            (TWO.right("ba"), "ab"), (number(1).left("hgfedcba"), "abcdefgh"), (B.star().reverse(), "b"),
            ((letter_of("c") & letter_of("a")).left("b").right("da"), "abcd"), (TWO + number(1), ""),
            (word_of(SMALL[::-1] + SMALL), SMALL),
        ):
            self.assertEqual(e.used_letters(), expected)

    def test_deep_ones(self):
        for depth in (40, 41, 200):
            self.assertEqual((chain(depth).depth(), chain(depth).count()), (depth, 2 * depth - 1))
            self.assertEqual(chain(depth).used_letters(), "ab")
            e = A
            for at in range(depth - 1):
                e = (e.star(), e.reverse(), e.left("bc"), e.right("d"))[at % 4]
            self.assertEqual((e.depth(), e.count(), e.used_letters()), (depth, depth, "abcd"))

    def test_large_ones(self):
        for count in (199, 200, 201, 9999, 10000):
            self.assertEqual(wide(count).count(), count)
            self.assertEqual(wide(count).used_letters(), SMALL)
        self.assertEqual((tree(13).depth(), tree(13).count()), (13, 8191))


class Equality(unittest.TestCase):
    def test_kinds_and_parts_count(self):
        for at, (e, kind, parts) in enumerate(KINDS):
            for other_at, (f, _, _) in enumerate(KINDS):
                self.assertIs(e == f, at == other_at)
                self.assertIs(e != f, at != other_at)

    def test_equal_ones_made_apart(self):
        for e, f in (
            (letter_of("a") + number(Ratio(2, 4)), letter_of("a") + number(Ratio(1, 2))),
            (letter_of("b").left("ab"), letter_of("b").left("ab")), (word_of("abc"), A * B * letter_of("c")),
            (number(0), number(Ratio(0))), ((A ^ B).star().reverse(), (letter_of("a") ^ letter_of("b")).star().reverse()),
        ):
            self.assertIs(e == f, True)
            self.assertIs(e != f, False)

    def test_unequal_parts(self):
        for e, f in (
            (A, B), (number(1), number(2)), (number(1), A), (A + B, B + A), (A + B, A + A), (A.left("a"), A.left("b")),
            (A.left("ab"), A.left("ba")), (A.left("a"), A.right("a")), (A.left("a"), B.left("a")), (A.star(), B.star()),
            ((A + B) + A, A + (B + A)), (A * B, A & B), (A ^ B, A & B), (A.star(), A.reverse()), (A.star().star(), A.star()),
            (number(Ratio(1, 2)), number(Ratio(1, 3))), (A.right("a"), A.right("aa")), ((A * B) + A, (A + B) + A),
        ):
            self.assertIs(e == f, False)
            self.assertIs(f == e, False)
            self.assertIs(e != f, True)

    def test_every_other_value(self):
        for e, _, _ in KINDS:
            for value in VALUES:
                if not isinstance(value, Expression):
                    self.assertIs(e == value, False)
                    self.assertIs(value == e, False)
        for value in ("number", ("number", (Ratio(1),)), Ratio(1), 1, "1"):
            self.assertIs(number(1) == value, False)

    def test_deep_ones(self):
        for depth in (40, 200):
            self.assertIs(chain(depth) == chain(depth), True)
            self.assertIs(chain(depth) == chain(depth - 1), False)
            self.assertIs(word_of("a" * depth) == word_of("b" + "a" * (depth - 1)), False)
        e, f, g = A, letter_of("a"), B
        for _ in range(199):
            e, f, g = e.star(), f.star(), g.star()
        self.assertEqual(e.depth(), 200)
        self.assertIs(e == f, True)
        self.assertIs(e == g, False)

    def test_large_ones(self):
        self.assertIs(wide(10000) == wide(10000), True)
        self.assertIs(wide(10000) == wide(9999), False)
        self.assertIs(tree(13) == tree(13), True)
        self.assertIs(tree(12) + tree(12) == tree(12) + wide(4095), False)


class Bounds(unittest.TestCase):
    def test_of_the_depth(self):
        for depth, expected in ((1, True), (39, True), (40, True), (41, False), (200, False)):
            self.assertIs(is_expression(chain(depth)), expected)
            e = A
            for at in range(depth - 1):
                e = (e.star(), e.reverse(), e.left("a"), e.right("a"))[at % 4]
            self.assertEqual(e.depth(), depth)
            self.assertIs(is_expression(e), expected)

    def test_of_the_count(self):
        for count, expected in ((1, True), (199, True), (200, True), (201, False), (202, False), (10000, False)):
            self.assertEqual(wide(count).count(), count)
            self.assertLess(wide(count).depth(), 40)
            self.assertIs(is_expression(wide(count)), expected)

    def test_of_the_integers(self):
        most = 10 ** 60 - 1
        for q, expected in (
            (Ratio(most), True), (Ratio(-most), True), (Ratio(10 ** 60), False), (Ratio(-10 ** 60), False),
            (Ratio(1, most), True), (Ratio(-1, most), True), (Ratio(1, 10 ** 60), False), (Ratio(-1, 10 ** 60), False),
            (Ratio(most, most - 1), True), (Ratio(most, 10 ** 60), False), (Ratio(10 ** 60, most), False),
            (Ratio(10 ** 100), False), (Ratio(0), True),
        ):
            for e in (number(q), number(q).star(), A + number(q), number(q) + A, (A * number(q)).left("ab"),
                      number(q).right("a").reverse(), (A & (B ^ number(q)))):
                self.assertIs(is_expression(e), expected)

    def test_every_other_value(self):
        for value in VALUES:
            self.assertIs(is_expression(value), isinstance(value, Expression))
        for e, _, _ in KINDS:
            self.assertIs(is_expression(e), True)
            self.assertIs(is_expression((e,)), False)
            self.assertIs(is_expression(e.parts), False)
            self.assertIs(is_expression(e.kind), False)

    def test_of_very_large_ones(self):
        e = A
        for _ in range(100):
            e = e + e
        self.assertIs(is_expression(e), False)
        self.assertEqual((e.depth(), e.count(), e.used_letters()), (101, 2 ** 101 - 1, "a"))

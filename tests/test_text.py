import re
import unittest
from itertools import product

from samples import VALUES, Choices, any_expression
from wordweight.errors import NoText
from wordweight.expression import Expression, letter_of, number, word_of
from wordweight.ratio import Ratio
from wordweight.text import read, show

A, B, C = letter_of("a"), letter_of("b"), letter_of("c")


class Wrong(Exception):
    """The place at which a text goes wrong."""


class Descent:
    """Reads a text rule by rule of the grammar, without bounds of the expression; gives nested tuples."""

    def __init__(self, text):
        self.text, self.at, self.opened = text, 0, 0
        self.last_number = None
        self.skip()

    def skip(self):
        while self.text[self.at:self.at + 1] == " ":
            self.at += 1

    def look(self):
        """The next token: a sign, a letter, a number as a string of digits and signs, or nothing."""
        found = re.match(r"-?[0-9]+/[0-9]+|-?[0-9]+|[a-z]|[-+&#*~()\[\]:]", self.text[self.at:])
        token = found.group() if found else ""
        if token == "-" or re.match("-?[0-9]", token) and not self.fits(token):
            return ""
        return token

    def fits(self, token):
        parts = token.lstrip("-").split("/")
        n, d = int(parts[0]), int(parts[1]) if len(parts) == 2 else 1
        if d == 0 or max(map(len, parts)) > 60 or self.at == self.last_number:
            return False
        ratio = Ratio(-n if token[0] == "-" else n, d)
        return token == f"{ratio.n}" + (f"/{ratio.d}" if ratio.d != 1 else "")

    def take(self, pattern):
        token = self.look()
        if not re.fullmatch(pattern, token):
            raise Wrong(self.at)
        self.at += len(token)
        if token[-1] in "0123456789":
            self.last_number = self.at
        self.skip()
        return token

    def whole(self):
        found = self.level(0)
        if self.at < len(self.text):
            raise Wrong(self.at)
        return found

    def level(self, at):
        kinds = (("sum", r"\+"), ("both", "&"), ("shuffle", "#"))
        if at == 3:
            return self.product()
        found = self.level(at + 1)
        while re.fullmatch(kinds[at][1], self.look()):
            self.take(kinds[at][1])
            found = (kinds[at][0], found, self.level(at + 1))
        return found

    def product(self):
        found = self.factor(0)
        while re.fullmatch(r"[a-z\[~(]|-?[0-9].*", self.look()):
            found = ("product", found, self.factor(0))
        return found

    def factor(self, prefixes):
        if self.look() in ("~", "[") and prefixes == 40:
            raise Wrong(self.at)
        if self.look() == "~":
            self.take("~")
            return ("reverse", self.factor(prefixes + 1))
        if self.look() == "[":
            self.take(r"\[")
            kind = "right" if self.look() == ":" else "left"
            if kind == "right":
                self.take(":")
            word = self.word()
            if kind == "left":
                self.take(":")
            self.take(r"\]")
            return (kind, word, self.factor(prefixes + 1))
        return self.power()

    def word(self):
        begin = self.at
        word = self.take("[a-z]")
        while re.fullmatch("[a-z]", self.look()) and self.at == begin + len(word) < begin + 8:
            word += self.take("[a-z]")
        return word

    def power(self):
        found = self.atom()
        while self.look() == "*":
            self.take(r"\*")
            found = ("star", found)
        return found

    def atom(self):
        if self.look() == "(":
            if self.opened == 40:
                raise Wrong(self.at)
            self.take(r"\(")
            self.opened += 1
            found = self.level(0)
            self.take(r"\)")
            self.opened -= 1
            return found
        token = self.take("[a-z]|-?[0-9].*")
        return ("letter", token) if token.isalpha() else ("number", token)


def expected(text):
    """The nested tuples of a text, or the place at which it goes wrong."""
    try:
        return Descent(text).whole()
    except Wrong as wrong:
        return wrong.args[0]


def nested(e):
    """The nested tuples of an expression."""
    if e.kind == "number":
        return ("number", str(e.parts[0]))
    return (e.kind, *[nested(part) if isinstance(part, Expression) else part for part in e.parts])


def found(text):
    """The nested tuples of what the program reads, or the place that it names."""
    try:
        return nested(read(text))
    except NoText as error:
        return error.at


class Test(unittest.TestCase):
    def wrong(self, text, at):
        with self.assertRaises(NoText, msg=repr(text)) as caught:
            read(text)
        self.assertEqual(caught.exception.at, at, repr(text))

    def reads(self, text, e):
        self.assertEqual(read(text), e, text)


class Forms(Test):
    def test_of_the_grammar(self):
        self.reads("a", A)
        self.reads("7", number(7))
        self.reads("-7/3", number(Ratio(-7, 3)))
        self.reads("a+b", A + B)
        self.reads("a&b", A & B)
        self.reads("a#b", A ^ B)
        self.reads("ab", A * B)
        self.reads("a*", A.star())
        self.reads("~a", A.reverse())
        self.reads("[ab:]c", C.left("ab"))
        self.reads("[:ab]c", C.right("ab"))
        self.reads("(a)", A)
        self.reads("((a+b))", A + B)
        self.reads("a**", A.star().star())
        self.reads("~~a", A.reverse().reverse())
        self.reads("[a:][:b]~a", A.reverse().right("b").left("a"))
        self.reads("~a*", A.star().reverse())
        self.reads("(~a)*", A.reverse().star())
        self.reads("[a:]a*", A.star().left("a"))
        self.reads("~a b", A.reverse() * B)
        self.reads("a~b", A * B.reverse())
        self.reads("a[b:]c*d", A * C.star().left("b") * letter_of("d"))
        self.reads("2a", number(2) * A)
        self.reads("a2", A * number(2))
        self.reads("(a+b)(c)", (A + B) * C)
        self.reads("a(b)*", A * B.star())

    def test_spaces(self):
        e = A + (B & (C ^ A * B.star()))
        for text in ("a+b&c#ab*", "a+b&c#a b*", "   a+b&c#a b*  ", " a  +   b & c # a  b  * "):
            self.reads(text, e)
        e = (A + number(Ratio(1, 2))).star().right("c").left("ab").reverse()
        for text in ("~[ab:][:c](a+1/2)*", "  ~[ab:][:c](a+1/2)*", " ~ [ ab : ] [ : c ] ( a + 1/2 ) * "):
            self.reads(text, e)
        self.reads("( a )  ( b )", A * B)
        self.reads("(a+b) *(2 a)", (A + B).star() * (number(2) * A))

    def test_equal_ranks_go_to_the_left(self):
        self.reads("a+b+c", (A + B) + C)
        self.reads("a&b&c", (A & B) & C)
        self.reads("a#b#c", (A ^ B) ^ C)
        self.reads("a b c", (A * B) * C)
        self.reads("abc", word_of("abc"))
        self.reads("a+(b+c)", A + (B + C))
        self.reads("a(bc)", A * (B * C))

    def test_different_ranks(self):
        signs = {"+": "sum", "&": "both", "#": "shuffle", " ": "product"}
        ranks = "+&# "
        for one, other in product(signs, repeat=2):
            left = (signs[other], (signs[one], nested(A), nested(B)), nested(C))
            right = (signs[one], nested(A), (signs[other], nested(B), nested(C)))
            expected = left if ranks.index(one) >= ranks.index(other) else right
            self.assertEqual(found(f"a{one}b{other}c"), expected)

    def test_numbers_are_tokens(self):
        self.reads("-2a", number(-2) * A)
        self.reads("a-2", A * number(-2))
        self.reads("a+-2", A + number(-2))
        self.reads("1 -2", number(1) * number(-2))
        self.reads("1 2", number(1) * number(2))
        self.reads("1/2 3/4", number(Ratio(1, 2)) * number(Ratio(3, 4)))
        self.reads("1/2 -3/4", number(Ratio(1, 2)) * number(Ratio(-3, 4)))
        self.reads("12", number(12))
        self.reads("-2*", number(-2).star())
        self.reads("2*-3", number(2).star() * number(-3))
        self.reads("2(3)-4", number(2) * number(3) * number(-4))
        self.reads("1a2b-3", number(1) * A * number(2) * B * number(-3))
        self.reads("0", number(0))
        for text, at in (("1-2", 1), ("1/2-3/4", 3), ("a 10-2", 4), ("1 2-3", 3), ("1--2", 1), ("-1-1", 2), ("1-a", 1),
                         ("-", 0), ("- 2", 0), ("--2", 0), ("a-", 1), ("a - 2", 2), ("-a", 0), ("-(2)", 0),
                         ("1/", 1), ("1/a", 1), ("1 /2", 2), ("1/ 2", 1), ("1/-2", 1), ("/2", 0), ("1/2/3", 3), ("a/b", 1),
                         ("(1-2)", 2), ("1+2-3", 3), ("1-2-3", 1), ("1.5", 1), ("1,5", 1), ("1e5 ?", 4)):
            self.wrong(text, at)

    def test_numbers_that_are_no_written_forms(self):
        for number_text in ("00", "01", "-0", "-01", "007", "1/1", "2/1", "2/4", "6/3", "-2/4", "0/1", "0/2", "-0/2",
                            "1/0", "0/0", "01/2", "1/02", "1/00", "10/5", "-3/03"):
            self.wrong(number_text, 0)
            self.wrong("a + " + number_text, 4)
            self.wrong("(" + number_text + ")", 1)
            self.wrong("3 " + number_text + " a", 2)

    def test_lengths_of_numbers(self):
        most, more = "9" * 60, "1" + "0" * 60
        for text in (most, "-" + most, "1/" + most, most + "/1" + "0" * 59, "-" + most + "/" + "1" + "0" * 59):
            self.reads(text, number(Ratio(*[int(part) for part in text.split("/")])))
        for text in (more, "-" + more, "1/" + more, more + "/7", "-1/" + more, "9" * 61, "9" * 1990, "1" * 61,
                     "0" * 61, more + "/" + more, most + "/" + "3" * 61):
            self.wrong(text, 0)
            self.wrong("a " + text, 2)
            self.wrong("a +" + text + ")", 3)

    def test_words(self):
        self.reads("[abcdefgh:]a", A.left("abcdefgh"))
        self.reads("[:abcdefgh]a", A.right("abcdefgh"))
        self.reads("[  abcdefgh  :  ]  a", A.left("abcdefgh"))
        self.reads("[  :  zz ] a", A.right("zz"))
        for text, at in (("[abcdefghi:]a", 9), ("[:abcdefghi]a", 10), ("[ abcdefghij:]a", 10), ("[abcdefgh i:]a", 10),
                         ("[a b:]a", 3), ("[ab  c:]a", 5), ("[:a b]a", 4), ("[ : abc d]a", 8), ("[:]a", 2), ("[]a", 1),
                         ("[::a]a", 2), ("[a]a", 2), ("[a:b]a", 3), ("[:a:]a", 3), ("[a:", 3), ("[a", 2), ("[", 1),
                         ("[:", 2), ("[:a", 3), ("[a:]", 4), ("[:a]", 4), ("[1:]a", 1), ("[a1:]a", 2), ("[(:]a", 1),
                         ("[A:]a", 1), ("[a:]+a", 4), ("[a:]*", 4), ("[a:])", 4), ("[a*:]a", 2), ("[~:]a", 1),
                         ("[ab:c]d", 4), ("[a-1:]", 2), ("]", 0), (":", 0), ("a]", 1), ("a:", 1), ("a [b:] ]", 7)):
            self.wrong(text, at)


class Bounds(Test):
    def test_open_parentheses(self):
        self.reads("(" * 40 + "a" + ")" * 40, A)
        self.wrong("(" * 41 + "a" + ")" * 41, 40)
        self.wrong("(" * 41, 40)
        self.wrong("(" * 40, 40)
        self.wrong(" (" * 41 + "a", 81)
        self.reads("(" * 40 + "a" + ")" * 40 + "(" * 40 + "b" + ")" * 40, A * B)
        self.reads("(" * 39 + "(a)(b)" + ")" * 39, A * B)
        self.wrong("(" * 39 + "(a)((b))" + ")" * 39, 43)
        self.reads("(" * 10 + "~" * 10 + "(" * 10 + "[a:]" * 5 + "(" * 20 + "a" + ")" * 40, found_prefixes(5, 10))

    def test_prefixes_in_a_row(self):
        self.wrong("~" * 41 + "a", 40)
        self.wrong("~" * 41, 40)
        self.wrong("[a:]" * 41 + "a", 160)
        self.wrong("[:a]" * 41 + "a", 160)
        self.wrong("~ " * 20 + "[a:] " * 20 + "~a", 140)
        self.wrong("~ " * 20 + "[a:] " * 20 + "[b:]a", 140)
        self.wrong("a b + " + "~" * 41 + "a", 46)
        # 40 of them may stand, but the expression is then too deep: the whole text follows the grammar.
        self.wrong("~" * 40 + "a", 41)
        self.wrong("[a:]" * 40 + "a", 161)
        self.wrong("~" * 40, 40)
        self.wrong("~" * 40 + ")", 40)
        self.reads("~" * 39 + "a", found_prefixes(0, 39))
        self.reads("[a:]" * 39 + "a", found_prefixes(39, 0))

    def test_prefixes_that_are_not_in_a_row(self):
        self.wrong("~" * 30 + "(" + "~" * 30 + "a)", 63)
        self.wrong("~" * 40 + "(" + "~" * 40 + "(" + "~" * 41 + "a", 122)
        self.reads("~" * 30 + "a " + "~" * 30 + "b", found_prefixes(0, 30) * found_prefixes(0, 30, B))
        self.reads("~" * 15 + "(" + "~" * 15 + "a)", found_prefixes(0, 30))

    def test_many_levels(self):
        text = ("~" * 40 + "(") * 40 + "a" + ")" * 40
        self.wrong(text, len(text))
        text = "(a+b&c#d " * 40 + "a" + ")" * 40
        self.wrong(text, len(text))

    def test_length_of_the_text(self):
        self.reads("a" + " " * 1999, A)
        self.reads(" " * 1999 + "a", A)
        self.wrong(" " * 2000 + "a", 0)
        self.wrong("a" + " " * 2000, 0)
        self.wrong("a" * 2001, 0)
        self.wrong(" " * 2000, 2000)
        self.wrong(" " * 2001, 0)
        self.wrong("a?" + "a" * 1998, 1)
        self.wrong("a?" + "a" * 1999, 0)
        self.wrong("a + ?" * 1000, 0)

    def test_bounds_of_the_expression(self):
        self.reads("a " * 40, word_of("a" * 40))
        self.wrong("a" * 41, 41)
        self.wrong("a" * 41 + "  ", 43)
        self.wrong("a" * 2000, 2000)
        self.wrong("+".join("a" * 41), 81)
        self.wrong("a" + "*" * 40, 41)
        self.assertEqual(read("a" + "*" * 39).depth(), 40)

    def test_count_of_the_expression(self):
        # 4 sums of 24 letters and one of 4 have 4 * 47 + 7 = 195 parts, and 4 products join them: 199.
        sums = ["(" + "+".join("a" * many) + ")" for many in (24, 24, 24, 24, 4)]
        self.assertEqual(read(" ".join(sums)).count(), 199)
        self.assertEqual(read(" ".join(sums) + "*").count(), 200)
        text = " ".join(sums) + "**"
        self.wrong(text, len(text))
        text = " ".join(sums) + " b  "
        self.wrong(text, len(text))

    def test_what_goes_wrong_first(self):
        self.wrong("a" * 50 + ")", 50)
        self.wrong("a" * 50 + "?", 50)
        self.wrong("a + + ?", 4)
        self.wrong("a + ? + +", 4)
        self.wrong("a ) 2/4", 2)
        self.wrong("2/4 )", 0)
        self.wrong("((((?", 4)


def found_prefixes(brackets, tildes, e=A):
    for _ in range(brackets):
        e = e.left("a")
    for _ in range(tildes):
        e = e.reverse()
    return e


class Places(Test):
    def test_of_the_first_token_that_cannot_stand(self):
        for text, at in (("a + + b", 4), ("+", 0), ("  +", 2), ("a +& b", 3), ("*", 0), ("a + *", 4), ("()", 1), ("(a))", 3),
                         (")", 0), ("a )", 2), ("(+a)", 1), ("(a+)", 3), ("~", 1), ("~)", 1), ("~+a", 1), ("~*", 1),
                         ("a#", 2), ("a & ", 4), ("a # # b", 4), ("(a", 2), ("(a ", 3), ("a(", 2), ("a (b", 4),
                         ("(a + b", 6), ("a&*", 2), ("a* *b + )", 8), ("(*)", 1), ("a]", 1), ("a b ]", 4), ("(a]", 2)):
            self.wrong(text, at)

    def test_of_a_character_that_begins_no_token(self):
        for character in "!\"$'%,./;<=>?@\\^_`{|}ABCXYZ" + "\n\t\x00\x7f\u00e4\u0661\uff41\u00b2":
            self.wrong(character, 0)
            self.wrong("a" + character, 1)
            self.wrong("a + " + character + " b", 4)
            self.wrong("(a" + character, 2)
            self.wrong("[a" + character + ":]b", 2)
            self.wrong("a b" + character + ")", 3)

    def test_of_a_text_that_ends_too_early(self):
        for text in ("", " ", "   ", "a +", "a + ", "(", "(a", "(a + (b)", "~", "~ ~ ", "[", "[ ", "[a", "[a:", "[a:]", "[:",
                     "[:a", "[:a] ", "a &", "a #  ", "((a) b"):
            self.wrong(text, len(text))

    def test_every_value(self):
        for value in VALUES + (b"a", ["a"], ("a",), A, Ratio(1), 1.5):
            if not isinstance(value, str):
                self.wrong(value, 0)

    def test_all_short_texts(self):
        for length in range(5):
            for characters in product("a1-/+*~([:]) ", repeat=length):
                text = "".join(characters)
                self.assertEqual(found(text), expected(text), repr(text))

    def test_longer_texts(self):
        choices = Choices(17)
        pieces = ("a", "b", "(", ")", "*", "+", "&", "#", "~", "[ab:]", "[:c]", " ", "2", "-1/2", "1/3", "[", ":", "]", "0", "?")
        for _ in range(6000):
            text = "".join(choices.of(pieces) for _ in range(3 + choices.below(12)))
            self.assertEqual(found(text), expected(text), repr(text))

    def test_texts_with_one_change(self):
        choices = Choices(18)
        for _ in range(400):
            text = show(any_expression(choices, 5))
            if len(text) < 120:
                self.assertEqual(found(text), expected(text))
                for _ in range(10):
                    at = choices.below(len(text) + 1)
                    changed = text[:at] + choices.of(("", " ", "+", "(", ")", "a", "2", "-", "*", "~", "?")) + text[
                        at + choices.below(2):]
                    self.assertEqual(found(changed), expected(changed), repr(changed))


KINDS = {
    "sum": A + B, "both": A & B, "shuffle": A ^ B, "product": A * B, "left": A.left("ab"), "right": A.right("ab"),
    "reverse": A.reverse(), "star": A.star(), "number": number(Ratio(-1, 2)), "letter": C,
}
TEXTS = {
    "sum": "a + b", "both": "a & b", "shuffle": "a # b", "product": "a b", "left": "[ab:]a", "right": "[:ab]a",
    "reverse": "~a", "star": "a*", "number": "-1/2", "letter": "c",
}
ORDER = ("sum", "both", "shuffle", "product")


class Showing(Test):
    def test_of_each_kind(self):
        for kind, e in KINDS.items():
            self.assertEqual(e.kind, kind)
            self.assertEqual(show(e), TEXTS[kind])

    def test_left_operands(self):
        for at, kind in enumerate(ORDER):
            for inner, e in KINDS.items():
                outer = (e + C, e & C, e ^ C, e * C)[at]
                within = f"({TEXTS[inner]})" if inner in ORDER[:at] else TEXTS[inner]
                self.assertEqual(show(outer), within + (" + c", " & c", " # c", " c")[at])

    def test_right_operands(self):
        for at, kind in enumerate(ORDER):
            for inner, e in KINDS.items():
                outer = (C + e, C & e, C ^ e, C * e)[at]
                within = f"({TEXTS[inner]})" if inner in ORDER[:at + 1] else TEXTS[inner]
                self.assertEqual(show(outer), ("c + ", "c & ", "c # ", "c ")[at] + within)

    def test_operands_of_prefixes(self):
        for inner, e in KINDS.items():
            within = f"({TEXTS[inner]})" if inner in ORDER else TEXTS[inner]
            self.assertEqual(show(e.reverse()), "~" + within)
            self.assertEqual(show(e.left("ba")), "[ba:]" + within)
            self.assertEqual(show(e.right("c")), "[:c]" + within)

    def test_operands_of_stars(self):
        for inner, e in KINDS.items():
            within = TEXTS[inner] if inner in ("number", "letter", "star") else f"({TEXTS[inner]})"
            self.assertEqual(show(e.star()), within + "*")

    def test_longer_ones(self):
        for e, text in (
            ((A + B).star() * (number(2) * A), "(a + b)* (2 a)"), (A + B + C, "a + b + c"), (A + (B + C), "a + (b + c)"),
            (word_of("abc"), "a b c"), (A * (B * C), "a (b c)"), ((A + B) & (C ^ A), "(a + b) & c # a"),
            (number(1) * number(-2), "1 -2"), (number(2).star().star(), "2**"), ((A * B).star().reverse(), "~(a b)*"),
            (A.left("ab").star(), "([ab:]a)*"), ((A.star().reverse() + B).right("c"), "[:c](~a* + b)"),
            (number(10 ** 70) + number(Ratio(1, 10 ** 70)), "1" + "0" * 70 + " + 1/1" + "0" * 70),
        ):
            self.assertEqual(show(e), text)

    def test_reading_gives_the_expression_back(self):
        for e in KINDS.values():
            self.check(e)
            for outer in around(e):
                self.check(outer)
                for more in around(outer):
                    self.check(more)

    def test_reading_gives_any_expression_back(self):
        choices = Choices(19)
        for _ in range(300):
            e = any_expression(choices, 5)
            if e.count() <= 60:
                self.check(e)

    def check(self, e):
        """The text is that of the expression, and no pair of parentheses can be left out."""
        text = show(e)
        self.assertEqual(read(text), e, text)
        for at, character in enumerate(text):
            if character == "(":
                end = closing(text, at)
                without = found(text[:at] + " " + text[at + 1:end] + " " + text[end + 1:])
                self.assertNotEqual(without, nested(e), text)

    def test_long_texts(self):
        e = number(10 ** 60 - 1)
        for at in range(30):
            e = e + number(Ratio(10 ** 60 - 1, 10 ** 59 + at))
        self.assertGreater(len(show(e)), 2000)
        self.wrong(show(e), 0)
        row = [letter_of(a) for a in "abcdefghijklmnop"]
        while len(row) > 1:
            row = [(one * other).star() for one, other in zip(row[::2], row[1::2])]
        self.check(row[0])

    def test_deep_ones(self):
        e = A
        for at in range(39):
            e = (e.star(), e.reverse(), e.left("ab"), e + B, B * e, e & B, B ^ e)[at % 7]
        self.assertEqual(e.depth(), 40)
        self.assertEqual(read(show(e)), e)
        e = A
        for _ in range(39):
            e = B + e
        self.assertEqual(read(show(e)), e)
        self.assertEqual(show(e), "b + (" * 38 + "b + a" + ")" * 38)


def closing(text, at):
    """The index of the parenthesis that closes the one at an index."""
    depth = 0
    for end in range(at, len(text)):
        depth += {"(": 1, ")": -1}.get(text[end], 0)
        if depth == 0:
            return end
    raise ValueError(text)


def around(e):
    """Expressions of each operation with an operand at each side."""
    return (e + C, C + e, e * C, C * e, e & C, C & e, e ^ C, C ^ e, e.star(), e.reverse(), e.left("b"), e.right("ca"))

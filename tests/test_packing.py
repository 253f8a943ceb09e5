import re
import sys
import unittest

from samples import VALUES, Choices, matrix, ratio, vector
from wordweight.errors import Fault, Malformed, NoText
from wordweight.expression import Expression, letter_of
from wordweight.linear import Matrix
from wordweight.machine import Machine, constant, letter, null
from wordweight.packing import packed, read_data, unpacked, written
from wordweight.plain import Plain
from wordweight.poly import Poly
from wordweight.ratio import Ratio
from wordweight.table import show_least
from wordweight.words import Alphabet

AB = Alphabet("ab")
ITEM = r"(?:-?[1-9][0-9]*|0|[a-z]{1,12}|T)"


def is_written(text):
    """Whether a text is a written form: the innermost tuples are taken out, again and again."""
    if not isinstance(text, str) or "T" in text or not text.isascii() or "\n" in text:
        return False
    for _ in range(60):
        text = re.sub(rf"\((?:{ITEM}(?: {ITEM})*)?\)", "T", text)
    return re.fullmatch(ITEM, text) is not None


def is_beginning(text):
    """Whether a text is the beginning of a written form."""
    many = text.count("(") - text.count(")")
    return any(is_written(text + more + ")" * (many - less)) for more in ("", "1", ")") for less in (0, 1))


def place(text):
    """The index of the first character at which a text is not the beginning of a written form, or its length."""
    for at in range(1, len(text) + 1):
        if not is_beginning(text[:at]):
            return at - 1
    return len(text)


def nested(value, depth):
    for _ in range(depth):
        value = (value,)
    return value


def digits_of(n):
    """The digits of an integer of any size."""
    limit = sys.get_int_max_str_digits()
    sys.set_int_max_str_digits(0)
    try:
        return str(n)
    finally:
        sys.set_int_max_str_digits(limit)


def any_data(choices, depth):
    """Any plain data, nested at most so deep."""
    kind = choices.below(4 if depth > 0 else 2)
    if kind == 0:
        return choices.of((0, 1, -1, 7, -10, 12, 10 ** 20, -(10 ** 21) + 1))
    if kind == 1:
        return "".join(choices.of("abz") for _ in range(1 + choices.below(12)))
    return tuple(any_data(choices, depth - 1) for _ in range(choices.below(4)))


DATA = ((0, "0"), (5, "5"), (-5, "-5"), (10, "10"), (-100, "-100"), ("a", "a"), ("abcdefghijkl", "abcdefghijkl"),
        ("zz", "zz"), ((), "()"), ((1,), "(1)"), ((-1, "a"), "(-1 a)"), (((),), "(())"), (((), ()), "(() ())"),
        ((1, (2, ("c", 0)), (), "d"), "(1 (2 (c 0)) () d)"), (("i", 3), "(i 3)"), ((((1,),),), "(((1)))"))


class Written(unittest.TestCase):
    def test_as_they_stand(self):
        for data, text in DATA:
            self.assertEqual(written(data), text)
            self.assertTrue(is_written(text))
            found = read_data(text)
            self.assertEqual(found, data)
            self.assertIs(type(found), type(data))

    def test_both_ways(self):
        choices = Choices(161)
        for _ in range(300):
            data = any_data(choices, 5)
            text = written(data)
            self.assertTrue(is_written(text))
            self.assertEqual(read_data(text), data)

    def test_numbers_of_any_size(self):
        choices = Choices(162)
        for many in (18, 19, 59, 60, 61, 119, 120, 121, 4299, 4300, 4301, 9000):
            for n in (10 ** many, 10 ** many - 1, 10 ** (many - 1) + choices.below(10 ** 9)):
                for sign, data in (("", n), ("-", -n)):
                    text = sign + digits_of(n)
                    self.assertEqual(written(data), text)
                    self.assertEqual(read_data(text), data)
                    self.assertEqual(read_data(f"(a {text})"), ("a", data))

    def test_words(self):
        for length in range(1, 13):
            word = "qwertyuiopas"[:length]
            self.assertEqual(written(word), word)
            self.assertEqual(read_data(word), word)
            self.assertEqual(read_data(f"({word} {word})"), (word, word))

    def test_the_depth(self):
        for value, text in ((0, "0"), ("abc", "abc"), (-12, "-12")):
            for depth in (1, 2, 59, 60):
                self.assertEqual(written(nested(value, depth)), "(" * depth + text + ")" * depth)
                self.assertEqual(read_data("(" * depth + text + ")" * depth), nested(value, depth))
            for depth in (61, 62, 100, 5000):
                with self.assertRaises(Malformed):
                    written(nested(value, depth))
        self.assertEqual(written(nested((), 59)), "(" * 60 + ")" * 60)
        with self.assertRaises(Malformed):
            written(nested((), 60))
        self.assertEqual(written((1, nested((), 58), "a")), "(1 " + "(" * 59 + ")" * 59 + " a)")
        with self.assertRaises(Malformed):
            written((1, nested((), 59), nested((), 2), "a", nested((), 59)))

    def test_values_without_a_written_form(self):
        strange = (True, False, None, "", "abcdefghijklm", "a" * 13, "a" * 100, "A", "aB", "a b", " a", "a ", "a1", "1",
                   "-", "a-", "\u00e4", "a\n", "()", [], [1], ["a"], {}, {1: 2}, Ratio(1), Poly([1]), AB, null(AB),
                   letter_of("a"), Plain(AB, 1), Matrix((), 0), Fault("x"), b"a", 1.0, set(), frozenset(), range(3))
        for value in strange:
            for data in (value, (value,), (1, value), ((), (value, 2)), nested(value, 30)):
                with self.assertRaises(Malformed):
                    written(data)

    def test_values_of_every_kind(self):
        def is_plain(value):
            if type(value) is tuple:
                return all(is_plain(item) for item in value)
            return type(value) is int or (type(value) is str and re.fullmatch("[a-z]{1,12}", value) is not None)
        for value in VALUES:
            if is_plain(value):
                self.assertEqual(read_data(written(value)), value)
            else:
                with self.assertRaises(Malformed):
                    written(value)


class ReadData(unittest.TestCase):
    def refuses(self, text, at):
        with self.assertRaises(NoText) as caught:
            read_data(text)
        self.assertEqual(caught.exception.at, at, text)

    def test_as_they_stand(self):
        for text, at in (("", 0), (" ", 0), ("-", 1), ("--1", 1), ("-0", 1), ("-01", 1), ("00", 1), ("01", 1),
                         ("0a", 1), ("12a", 2), ("a1", 1), ("a-", 1), ("1-", 1), ("1 ", 1), (" 1", 0), ("1 2", 1),
                         ("(", 1), ("( ", 1), ("( 1)", 1), ("(1 )", 3), ("(1  2)", 3), ("(1", 2), ("(1 ", 3),
                         ("(1 2", 4), ("(1 -", 4), ("(1 -)", 4), ("(1 -0)", 4), ("(1 02)", 4), ("(1,2)", 2),
                         (")", 0), ("())", 2), ("()()", 2), ("() ", 2), ("(()", 3), ("(()()", 3), ("(a(b))", 2),
                         ("(() ", 4), ("(1(2))", 2), ("A", 0), ("aA", 1), ("(a Bc)", 3), ("+1", 0), ("1.5", 1),
                         ("(1\n2)", 2), ("(1\t2)", 2), ("\u00e4", 0), ("a\u00e4", 1), ("(\u0661)", 1), ("1_0", 1),
                         ("abcdefghijklm", 12), ("(abcdefghijklm)", 13), ("(1 abcdefghijklmn)", 15), ("a b", 1),
                         ("abcdefghijkl ", 12), ("abcdefghijkl1", 12)):
            self.refuses(text, at)
            self.assertFalse(is_written(text))
            self.assertEqual(place(text), at)

    def test_texts_that_are_cut(self):
        choices = Choices(163)
        for _ in range(60):
            text = written((any_data(choices, 4), any_data(choices, 4)))
            for end in range(len(text)):
                self.refuses(text[:end], end)

    def test_texts_with_one_character_changed(self):
        choices = Choices(164)
        for _ in range(40):
            text = written((any_data(choices, 3), any_data(choices, 3)))
            for _ in range(25):
                at = choices.below(len(text) + 1)
                new = choices.of("(() )-01a zA")
                for changed in (text[:at] + new + text[at:], text[:at] + text[at + 1:], text[:at] + new + text[at + 1:]):
                    if is_written(changed):
                        self.assertEqual(written(read_data(changed)), changed)
                    else:
                        self.refuses(changed, place(changed))

    def test_short_texts(self):
        level = [""]
        for _ in range(5):
            level = [text + new for text in level for new in "()-01a "]
            for text in level:
                if is_written(text):
                    self.assertEqual(written(read_data(text)), text)
                else:
                    self.refuses(text, place(text))
            level = [text for text in level if is_beginning(text)]

    def test_open_parentheses(self):
        self.refuses("(" * 61, 60)
        self.refuses("(" * 61 + ")" * 61, 60)
        self.refuses("(" * 60, 60)
        self.refuses("(" * 60 + "a(", 61)
        self.refuses("(" * 60 + "a (", 62)
        self.refuses("(" * 3000, 60)
        self.refuses("(1 " * 60 + "(", 180)
        self.refuses("((a) " * 59 + "((", 59 * 5 + 1)
        self.assertEqual(read_data("(() " * 59 + "()" + ")" * 59)[1][1][0], ())

    def test_long_texts(self):
        text = "(" + " ".join(["(abc -12 (0))"] * 20000) + ")"
        self.assertEqual(read_data(text), (("abc", -12, (0,)),) * 20000)
        self.refuses(text + " ", len(text))
        self.refuses(text[:-1], len(text) - 1)

    def test_values_that_are_no_strings(self):
        for value in VALUES + (b"a", ["a"], ("a",), 1.0):
            if not isinstance(value, str):
                self.refuses(value, 0)


def rs(*numbers):
    """The packed form of a vector."""
    return ("t", *[("r", q.n, q.d) for q in vector(*numbers)])


SMALL = Machine(AB, vector(1, "1/2"), [matrix((0, 1), (2, 0)), matrix((1, 0), (0, "-3/4"))], vector(5, 0))
PACKED = (
    (Ratio(0), ("r", 0, 1)), (Ratio(-6, 4), ("r", -3, 2)), (Ratio(10 ** 50), ("r", 10 ** 50, 1)),
    (0, ("i", 0)), (-7, ("i", -7)), (10 ** 5000, ("i", 10 ** 5000)),
    (Poly([]), ("p",)), (Poly([0, 1]), ("p", ("r", 0, 1), ("r", 1, 1))), (Poly([ratio("1/2")]), ("p", ("r", 1, 2))),
    (Matrix((), 0), ("m", 0)), (Matrix((), 3), ("m", 3)), (Matrix(((), ()), 0), ("m", 0, ("t",), ("t",))),
    (matrix((1, 2), ("1/3", 0)), ("m", 2, rs(1, 2), rs("1/3", 0))),
    (null(AB), ("w", "ab", ("t",), ("t",), ("m", 0), ("m", 0))),
    (constant(Alphabet("z"), Ratio(2)), ("w", "z", rs(2), rs(1), ("m", 1, rs(0)))),
    (SMALL, ("w", "ab", rs(1, "1/2"), rs(5, 0), ("m", 2, rs(0, 1), rs(2, 0)), ("m", 2, rs(1, 0), rs(0, "-3/4")))),
    (letter(Alphabet("dcba"), "c"), ("w", "dcba", rs(1, 0), rs(0, 1), ("m", 2, rs(0, 0), rs(0, 0)),
                                     ("m", 2, rs(0, 1), rs(0, 0)), ("m", 2, rs(0, 0), rs(0, 0)),
                                     ("m", 2, rs(0, 0), rs(0, 0)))),
    ((), ("t",)), ((1,), ("t", ("i", 1))), (((), "a"), ("t", ("t",), ("s", "a"))), (vector(1, "1/2"), rs(1, "1/2")),
    ((Poly([1]), (Ratio(2), 3, "abc")), ("t", ("p", ("r", 1, 1)), ("t", ("r", 2, 1), ("i", 3), ("s", "abc")))),
    ("", ("s",)), ("a", ("s", "a")), ("abcdefghijk", ("s", "abcdefghijk")), ("abcdefghijkl", ("s", "abcdefghijkl")),
    ("abcdefghijklm", ("s", "abcdefghijkl", "m")), ("abcdefghijkl" * 2, ("s", "abcdefghijkl", "abcdefghijkl")),
    ("abcdefghijkl" * 2 + "xyz", ("s", "abcdefghijkl", "abcdefghijkl", "xyz")),
    ("a" * 1000, ("s", *["a" * 12] * 83, "aaaa")),
)


def same(one, two):
    """Equal, and of the same kinds throughout."""
    if type(one) is not type(two):
        return False
    if isinstance(one, tuple):
        return len(one) == len(two) and all(same(x, y) for x, y in zip(one, two))
    return one == two


def paths(data, path=()):
    yield path
    if isinstance(data, tuple):
        for at, part in enumerate(data):
            yield from paths(part, path + (at,))


def put(data, path, part):
    if path == ():
        return part
    return data[:path[0]] + (put(data[path[0]], path[1:], part),) + data[path[0] + 1:]


def part_of(data, path):
    for at in path:
        data = data[at]
    return data


class Packed(unittest.TestCase):
    def test_as_they_stand(self):
        for value, data in PACKED:
            self.assertTrue(same(packed(value), data))
            self.assertTrue(same(unpacked(data), value))
            self.assertEqual(read_data(written(data)), data)

    def test_nested_tuples_of_all(self):
        choices = Choices(165)
        values, data = zip(*PACKED)
        self.assertEqual(packed(values), ("t", *data))
        self.assertEqual(unpacked(("t", *data)), values)
        for _ in range(50):
            value, form = choices.of(PACKED)
            for _ in range(choices.below(20)):
                other, own = choices.of(PACKED)
                value, form = (value, other), ("t", form, own)
            self.assertEqual(packed(value), form)
            self.assertTrue(same(unpacked(form), value))

    def test_machines_and_papers(self):
        choices = Choices(166)
        for letters in ("a", "ba", "zyx"):
            for size in range(4):
                machine = choices.machine(letters, size)
                value = (machine, show_least(machine), machine.matrices)
                self.assertEqual(unpacked(packed(value)), value)
                self.assertEqual(unpacked(read_data(written(packed(value)))), value)

    def test_values_that_cannot_be_packed(self):
        strange = (True, False, None, [], [1], ["a"], {}, {1: 2}, AB, letter_of("a"), Plain(AB, 0), Fault("x"), "A",
                   "a b", "a1", "1", " ", "-", "a" * 12 + "A", "\u00e4", "a\n", b"a", 1.0, set(), Expression)
        for value in strange:
            for each in (value, (value,), (1, value, 2), ((), (value,)), nested(value, 40)):
                with self.assertRaises(Malformed):
                    packed(each)

    def test_values_of_every_kind(self):
        def is_packable(value):
            if type(value) is tuple:
                return all(is_packable(item) for item in value)
            if type(value) is str:
                return re.fullmatch("[a-z]*", value) is not None and value != "\n"
            return type(value) in (int, Ratio, Poly, Matrix, Machine)
        for value in VALUES:
            if is_packable(value):
                self.assertTrue(same(unpacked(packed(value)), value))
            else:
                with self.assertRaises(Malformed):
                    packed(value)

    def test_the_depth(self):
        # How deep the packed form of each is nested by itself.
        for value, own in (((), 1), (5, 1), ("", 1), ("abc", 1), (Ratio(1), 1), (Poly([]), 1), (Poly([1]), 2),
                           (Matrix((), 2), 1), (Matrix(((),), 0), 2), (matrix((1,)), 3), (null(AB), 2), (SMALL, 4),
                           (vector(1), 2)):
            for depth in (0, 1, 59 - own, 60 - own):
                data = packed(nested(value, depth))
                self.assertEqual(unpacked(data), nested(value, depth))
                self.assertEqual(read_data(written(data)), data)
            for depth in (61 - own, 62 - own, 200, 5000):
                with self.assertRaises(Malformed):
                    packed(nested(value, depth))
                with self.assertRaises(Malformed):
                    packed((1, nested(value, depth)))


class Unpacked(unittest.TestCase):
    def refuses(self, data):
        with self.assertRaises(Malformed):
            unpacked(data)

    def test_changed_data(self):
        for data in (
                ("r", 2, 4), ("r", 0, 2), ("r", 1, 0), ("r", 1, -1), ("r", -1, -2), ("r", 6, 3), ("r", 1), ("r",),
                ("r", 1, 1, 1), ("r", "a", 1), ("r", 1, "a"), ("r", (1,), 1), ("r", ("i", 1), ("i", 1)), ("r", True, 1),
                ("r", 1, True), ("r", 0, False), ("r", 1, None), ("r", 0, 0),
                ("i",), ("i", "a"), ("i", 1, 2), ("i", True), ("i", False), ("i", None), ("i", ("i", 1)), ("i", (1,)),
                ("i", -1, 0), ("s", "a", "b"), ("s", "abcdefghijk", "l"), ("s", "abcdefghijkl", ""), ("s", ""),
                ("s", "abcdefghijklm"), ("s", "abcdefghijkl", "a", "abcdefghijkl"), ("s", "A"), ("s", "a b"), ("s", 1),
                ("s", "abcdefghijkl", 1), ("s", ("s", "a")), ("s", ()), ("s", "a1"), ("s", "abcdefghijkl", "m", "n"),
                ("p", ("r", 0, 1)), ("p", ("r", 1, 1), ("r", 0, 1)), ("p", 1), ("p", ("i", 1)), ("p", ("p",)),
                ("p", ("r", 2, 2)), ("p", ("t",)), ("p", rs(1)), ("p", "a"), ("p", ()), ("p", ("s", "a")),
                ("m",), ("m", -1), ("m", "a"), ("m", True), ("m", 0, rs(1)), ("m", 1, ("t",)), ("m", 2, rs(1)),
                ("m", 1, rs(1, 2)), ("m", 1, rs(1), rs(1, 2)), ("m", 1, ("r", 1, 1)), ("m", 1, ("t", ("i", 1))),
                ("m", 1, 1), ("m", 1, rs(1), 1), ("m", ("i", 1), rs(1)), ("m", (1,), rs(1)), ("m", rs(1)),
                ("m", 1, ("p", ("r", 1, 1))), ("m", 1, ("m", 1)), ("m", 1, ("s", "a")), ("m", 0, ("s",)),
                ("m", 0, ("p",)), ("m", 1, ("t", ("r", 2, 2))), ("m", None), ("m", False, ("t",)),
                ("t", 1), ("t", "a"), ("t", ()), ("t", ("x",)), ("t", ("i", 1), 1), ("t", True),
                ("w",), ("w", "a"), ("w", "a", ("t",)), ("w", "a", ("t",), ("t",)), ("w", "aa", ("t",), ("t",)),
                ("w", "a", ("t",), ("t",), ("m", 0), ("m", 0)), ("w", "ab", ("t",), ("t",), ("m", 0)),
                ("w", "a", rs(1), ("t",), ("m", 0)), ("w", "a", ("t",), rs(1), ("m", 0)), ("w", "a", ("t",), ("t",), 0),
                ("w", "a", ("t",), ("t",), ("m", 1)), ("w", "a", rs(1), rs(1), ("m", 1)), ("w", "a", rs(1), rs(1), rs(1)),
                ("w", "a", rs(1), rs(1), ("m", 1, rs(1), rs(1))), ("w", "a", rs(1), rs(1), ("m", 2, rs(1, 1))),
                ("w", "aa", ("t",), ("t",), ("m", 0), ("m", 0)), ("w", "abcde", ("t",), ("t",), *[("m", 0)] * 5),
                ("w", "A", ("t",), ("t",), ("m", 0)), ("w", "", ("t",), ("t",)), ("w", 1, ("t",), ("t",), ("m", 0)),
                ("w", ("s", "a"), ("t",), ("t",), ("m", 0)), ("w", "a", ("t", ("i", 1)), rs(1), ("m", 1, rs(1))),
                ("w", "a", rs(1), ("t", ("i", 1)), ("m", 1, rs(1))), ("w", "a", ("p",), ("t",), ("m", 0)),
                ("w", "a", ("t",), ("s",), ("m", 0)), ("w", "a", ("s",), ("s",), ("m", 0)),
                ("w", "a", ("r", 1, 1), ("r", 1, 1), ("m", 1, rs(1))), ("w", "a", ("t",), ("t",), ("t",)),
                (), ("x",), ("x", 1), ("rr", 1, 1), ("R", 1, 1), (1,), (("r",), 1, 1), ("a", "b"), ("ii", 1), ((),),
                ("q",), ("n", 1), ("", 1)):
            self.refuses(data)
            self.refuses(("t", data))
            self.refuses(("t", ("i", 1), data, ("t",)))

    def test_other_kinds_at_each_place(self):
        changed = 0
        for value, data in PACKED:
            if len(written(data)) < 400:
                for path in paths(data):
                    part = part_of(data, path)
                    for other in ([part], (part,), None, True, False, Ratio(1), str(part), list(data), value,
                                  {1: part}, (part, part), "", "x" * 13, -1, Poly([1]), SMALL):
                        new = put(data, path, other)
                        try:
                            found = unpacked(new)
                        except Malformed:
                            changed += 1
                        else:
                            self.assertTrue(same(packed(found), new))
        self.assertGreater(changed, 1000)

    def test_true_in_the_place_of_1(self):
        for data in (("r", True, 1), ("r", 1, True), ("i", True), ("m", True, rs(1)), ("m", True),
                     ("w", "a", ("t", ("r", True, 1)), rs(1), ("m", 1, rs(1))), ("p", ("r", 1, True)),
                     ("w", "a", rs(1), rs(1), ("m", True, rs(1))), ("m", False)):
            self.refuses(data)
            self.refuses(("t", data))

    def test_too_deep(self):
        data = ("t",)
        for depth in range(1, 100):
            if depth <= 60:
                self.assertEqual(packed(unpacked(data)), data)
            else:
                self.refuses(data)
            data = ("t", data)
        for _ in range(5000):
            data = ("t", data)
        self.refuses(data)

    def test_values_of_every_kind(self):
        for value in VALUES + (("r", [1], 1), ["r", 1, 1], "r", b"r", {}, 1.0, ("i", 1.0), ("i", b"a")):
            self.refuses(value)


class Arguments(unittest.TestCase):
    def test_they_stay(self):
        for value, data in PACKED:
            self.assertEqual(packed(value), packed(value))
            self.assertEqual(unpacked(data), unpacked(data))
            self.assertEqual(written(data), written(data))

import re
import unittest

from samples import VALUES, Choices, matrix, numbers_machine, vector
from wordweight.errors import NoText, Refused
from wordweight.expression import Expression
from wordweight.machine import Machine, constant, letter, null
from wordweight.plain import Plain, read_plain
from wordweight.ratio import Ratio
from wordweight.sheet import full_text, machine_text, names_after, read_line
from wordweight.text import read
from wordweight.words import Alphabet

AB = Alphabet("ab")
NAMES = {"S": "(a + 2 b)*", "T": "a", "Z": "b b", "C": "c"}
PLAIN = Plain(AB, 2, ends=(1,), moves=((0, "a", 1), (1, "b", 1)))
PERCENT = chr(37)

# The forms of lines, as the document writes them: E, W and P are texts.
FORMS = (r"(let) +(?P<N>[A-Z]) *= *(?P<E>TEXT)", r"(weight) +(?P<E>TEXT) *; *(?P<W>TEXT)", r"(least) +(?P<E>TEXT)",
         r"(compare) +(?P<E>TEXT) *; *(?P<F>TEXT)", r"(lengths) +(?P<E>TEXT)", r"(write) +(?P<E>TEXT)",
         r"(accept) +(?P<P>TEXT) *; *(?P<W>TEXT)", r"(state) +(?P<P>TEXT)", r"(once) +(?P<P>TEXT)")
TEXT = r"[^=; ](?:[^=;]*[^=; ])?"


def told(alphabet, names, line):
    """What read_line returns, or ("text", at) or ("refused", reason), by the words of the document."""
    if not isinstance(line, str) or len(line) > 2000 or not all(" " <= x <= "~" and x != PERCENT for x in line):
        return ("text", 0)
    if re.fullmatch(" *(#.*)?", line):
        return ("empty",)
    match = next((m for m in (re.fullmatch(" *" + form.replace("TEXT", TEXT) + " *", line) for form in FORMS) if m),
                 None)
    if match is None:
        return ("text", 0)
    texts = [(kind, text, match.start(kind)) for kind, text in match.groupdict().items()]
    expressions = [text for kind, text, _ in texts if kind in "EF"]
    if any(x.isupper() and x not in names for text in expressions for x in text):
        return ("refused", "name")
    fulls = ["".join("(" + names[x] + ")" if x.isupper() else x for x in text) for text in expressions]
    if any(len(full) > 2000 for full in fulls):
        return ("refused", "long")
    found = [match.group(1)]
    waiting = list(fulls)
    for kind, text, at in sorted(texts, key=lambda each: each[2]):
        try:
            if kind == "N":
                found.append(text)
            elif kind == "W":
                if text != "-" and not re.fullmatch("[" + alphabet.letters + "]{1,20}", text):
                    return ("text", at)
                found.append("" if text == "-" else text)
            elif kind == "P":
                found.append(read_plain(alphabet, text.replace(",", ";") + (" " if text[-1] == "," else "")))
            else:
                found.append(read(waiting.pop(0)))
                if not set(found[-1].used_letters()) <= set(alphabet.letters):
                    return ("text", at)
        except NoText:
            return ("text", at)
    return ("let", found[1], fulls[0]) if found[0] == "let" else tuple(found)


def tried(alphabet, names, line):
    try:
        return read_line(alphabet, names, line)
    except NoText as wrong:
        return ("text", wrong.at)
    except Refused as wrong:
        return ("refused", wrong.reason)


class FullText(unittest.TestCase):
    def test_names_in_a_text(self):
        for text, full in (
                ("S", "((a + 2 b)*)"), ("a", "a"), ("S S", "((a + 2 b)*) ((a + 2 b)*)"), ("TT", "(a)(a)"),
                ("(S + T) Z", "(((a + 2 b)*) + (a)) (b b)"), ("~T*", "~(a)*"), ("[ab:]S # Z", "[ab:]((a + 2 b)*) # (b b)"),
                ("2 T 3", "2 (a) 3"), ("((T))", "(((a)))"), ("C&C", "(c)&(c)"), ("-", "-"), (" T ", " (a) ")):
            self.assertEqual(full_text(NAMES, text), full)

    def test_the_dict_stays(self):
        names = dict(NAMES)
        for text in ("S T", "a", "X", "S" * 1000):
            try:
                full_text(names, text)
            except Refused:
                pass
            self.assertEqual(names, NAMES)
            self.assertEqual(list(names), list(NAMES))

    def refuses(self, names, text, reason):
        with self.assertRaises(Refused) as caught:
            full_text(names, text)
        self.assertEqual(caught.exception.reason, reason)

    def test_names_that_are_not_defined(self):
        for text in ("A", "a + A", "S X", "(B)", "S Q T", "[X:]a"):
            self.refuses(NAMES, text, "name")
        self.refuses({}, "S", "name")

    def test_the_length(self):
        names = {"A": "a" * 998, "B": "b" * 1000, "E": ""}
        self.assertEqual(full_text(names, "AA"), "(" + "a" * 998 + ")" + "(" + "a" * 998 + ")")
        self.assertEqual(len(full_text(names, "AA")), 2000)
        self.assertEqual(len(full_text(names, "a" * 2000)), 2000)
        self.assertEqual(len(full_text(names, "E" * 1000)), 2000)
        for text in ("AA ", "AB", "BB", "a" * 2001, "E" * 1000 + "a", "AAA", "B" * 2000):
            self.refuses(names, text, "long")

    def test_the_name_comes_before_the_length(self):
        names = {"A": "a" * 1500}
        for text in ("AAX", "XAA", "a" * 3000 + "X", "AXA"):
            self.refuses(names, text, "name")


class Forms(unittest.TestCase):
    def test_each_form(self):
        e, f = read("(a + b)* 2"), read("a")
        text = "(a + b)* 2"
        plain = "2, 0, 1, 0a1 1b1"
        for line, found in (
                (f"let X = {text}", ("let", "X", text)), (f"weight {text} ; ab", ("weight", e, "ab")),
                (f"weight {text} ; -", ("weight", e, "")), (f"least {text}", ("least", e)),
                (f"compare {text} ; a", ("compare", e, f)), (f"lengths {text}", ("lengths", e)),
                (f"write {text}", ("write", e)), (f"accept {plain} ; bb", ("accept", PLAIN, "bb")),
                (f"accept {plain} ; -", ("accept", PLAIN, "")), (f"state {plain}", ("state", PLAIN)),
                (f"once {plain}", ("once", PLAIN))):
            got = read_line(AB, {}, line)
            self.assertIs(type(got), tuple)
            self.assertEqual(got, found)
            self.assertEqual([type(each) for each in got], [type(each) for each in found])

    def test_spaces_where_they_may_stand(self):
        for pieces in (("", "let ", "A", "=", "a + b", ""), ("", "weight ", "a b", ";", "ab", ""),
                       ("", "least ", "a b", ""), ("", "compare ", "a", ";", "b", ""), ("", "lengths ", "a* b", ""),
                       ("", "write ", "a", ""), ("", "accept ", "2, 0, 1, 0a1 1b1", ";", "-", ""),
                       ("", "state ", "2, 0, 1, 0a1 1b1", ""), ("", "once ", "0, , ,", ""), ("", ""), ("", "# a", "")):
            told_once = read_line(AB, {}, "".join(pieces))
            for between in ("", " ", "  ", "     "):
                self.assertEqual(read_line(AB, {}, between.join(pieces)), told_once)
                for at in range(1, len(pieces)):
                    line = "".join(pieces[:at]) + between + "".join(pieces[at:])
                    self.assertEqual(read_line(AB, {}, line), told_once)
                    self.assertEqual(told(AB, {}, line), told_once)

    def test_empty_lines(self):
        for line in ("", " ", "      ", "#", "# let A = b", "   # x", "#=;=;", "#" * 2000, " " * 2000, "#A", "#a "):
            self.assertEqual(read_line(AB, {}, line), ("empty",))

    def refuses(self, line, at, names=()):
        with self.assertRaises(NoText) as caught:
            read_line(AB, dict(names), line)
        self.assertEqual(caught.exception.at, at, line)

    def test_lines_of_no_form(self):
        for line in ("let", "let ", "let A", "let A =", "let A = ", "let A=", "let = a", "let =", "let A a", "let A ; a",
                     "let A = a = b", "let A == a", "let A = a ; b", "let A = a;", "let a = a", "let AB = a",
                     "let A B = a", "let 1 = a", "letA = a", "let(A) = a", "let A= =a", "Let A = a", "LET A = a",
                     "weight", "weight a", "weight ; a", "weight a ;", "weight a ; ", "weight a ; a ; a", "weight a = a",
                     "weight a ;; a", "weight ;", "weighta ; a", "Weight a ; a", "weight a ; b = c", "weight= a ; a",
                     "weight;a", "least", "least ", "least a ; b", "least a = b", "least ;", "least =", "least a;",
                     "leasta", "LEAST a", "leasT a", "least; a", "compare a", "compare a b", "compare a ;", "compare ; a",
                     "compare a ; b ; c", "compare a = b", "compare", "lengths", "lengths a ; b", "length a", "lengths=a",
                     "write", "write a ; a", "write a = a", "accept 1, 0, ,", "accept ; a", "accept 1; 0; ; ; a",
                     "accept 1, 0, , ;", "accept", "state", "state 1; 0; ;", "state 1, 0, , ; a", "once", "once ;",
                     "once 1, 0, , = a", "x", "a", "S", "-", "=", ";", "let S = S S = S", "letlet A = a", "a # b",
                     "; #", "weight a ; #;", "names", "empty", "error"):
            self.refuses(line, 0)
            self.refuses(line, 0, NAMES)
            self.assertEqual(told(AB, {}, line), ("text", 0))

    def test_lines_of_strange_characters(self):
        for strange in (PERCENT, "\n", "\t", "\r", "\x00", "\x7f", "\u00e4", "\u2003", "\u0430"):
            for line in ("least a" + strange, strange + "least a", "least " + strange + "a", "# " + strange, strange,
                         "let A = b" + strange, "x" + strange):
                self.refuses(line, 0)
        self.assertEqual(read_line(AB, {}, "# !\"$&'()*+,-./09:;<=>?@AZ[\\]^_`az{|}~"), ("empty",))

    def test_the_length_of_lines(self):
        self.assertEqual(read_line(AB, {}, "let A = a" + " " * 1991), ("let", "A", "a"))
        self.assertEqual(read_line(AB, {}, " " * 1991 + "let A = a"), ("let", "A", "a"))
        for line in ("let A = a" + " " * 1992, " " * 1992 + "let A = a", "#" * 2001, " " * 2001, "x" * 5000,
                     "let A = B" + " " * 1992):
            self.refuses(line, 0)

    def test_values_that_are_no_strings(self):
        for value in VALUES:
            if not isinstance(value, str):
                self.refuses(value, 0)


class Names(unittest.TestCase):
    def test_they_stand_for_full_texts(self):
        self.assertEqual(read_line(AB, NAMES, "least S T"), ("least", read("((a + 2 b)*) (a)")))
        self.assertEqual(read_line(AB, NAMES, "compare T T;2 Z"), ("compare", read("(a) (a)"), read("2 (b b)")))
        self.assertEqual(read_line(AB, NAMES, "let U = S Z"), ("let", "U", "((a + 2 b)*) (b b)"))
        self.assertEqual(read_line(AB, NAMES, "let S = S T"), ("let", "S", "((a + 2 b)*) (a)"))
        self.assertEqual(read_line(AB, NAMES, "weight S;ab"), ("weight", read("(a + 2 b)*"), "ab"))

    def refuses(self, names, line, reason):
        with self.assertRaises(Refused) as caught:
            read_line(AB, names, line)
        self.assertEqual(caught.exception.reason, reason)
        self.assertEqual(told(AB, names, line), ("refused", reason))

    def test_not_defined(self):
        for line in ("let A = A", "let A = B", "weight X ; a", "weight X ; A", "weight X ; zz", "least X", "compare a ; X",
                     "compare X ; a", "compare X ; Y", "compare + ; X", "compare X ; +", "lengths a X", "write (X",
                     "let A = )X", "weight X + ; a"):
            self.refuses(NAMES, line, "name")
            self.refuses({}, line, "name")

    def test_names_stand_in_expressions_only(self):
        for line, at in (("weight a ; S", 11), ("accept S ; a", 7), ("state S", 6), ("once X", 5), ("weight a ; X", 11)):
            self.assertEqual(tried(AB, NAMES, line), ("text", at))

    def test_too_long(self):
        names = {"A": "a" + " " * 996 + "b", "B": "(" * 1500}
        full = "(" + names["A"] + ")"
        self.assertEqual(len(full), 1000)
        self.assertEqual(read_line(AB, names, "let D = AA"), ("let", "D", full * 2))
        self.assertEqual(read_line(AB, names, "least  AA"), ("least", read(full * 2)))
        self.assertEqual(read_line(AB, names, "compare AA; A"), ("compare", read(full * 2), read(full)))
        for line in ("least A A", "least AAa", "compare AAa ; a", "compare a ; AAA", "compare + ; AAA", "weight AAA ; zz",
                     "let D = BB", "lengths BB", "write aAA", "compare B ; BB"):
            self.refuses(names, line, "long")

    def test_a_definition_of_2000_characters(self):
        names = {"A": "a" + " " * 998 + "b"}
        full = "(" + names["A"] + ")" + " " * 996 + "ab"
        self.assertEqual(len(full), 2000)
        self.assertEqual(read_line(AB, names, "let B = A" + " " * 996 + "ab"), ("let", "B", full))
        self.refuses(names, "let B = A" + " " * 997 + "ab", "long")
        self.refuses(names, "let B = A" + " " * 996 + "abb", "long")
        self.refuses({"B": full}, "let C = B", "long")
        self.refuses({"B": full}, "least B", "long")

    def test_the_order_of_refusals(self):
        names = {"A": "a" * 998}
        for line, found in (
                ("compare AAA ; X", ("refused", "name")), ("compare X ; AAA", ("refused", "name")),
                ("compare + ; X", ("refused", "name")), ("compare + ; AAA", ("refused", "long")),
                ("compare AAA ; +", ("refused", "long")), ("compare + ; )", ("text", 8)), ("compare a ; )", ("text", 12)),
                ("compare + ; a", ("text", 8)), ("weight + ; zz", ("text", 7)), ("weight a ; zz", ("text", 11)),
                ("weight AAA ; zz", ("refused", "long")), ("weight X ; zz", ("refused", "name")),
                ("compare AAA ; X = a", ("text", 0)), ("compare AAA ; X " + PERCENT, ("text", 0)),
                ("accept x ; zz", ("text", 7)), ("accept 1, 0, , ; zz", ("text", 17))):
            self.assertEqual(tried(AB, names, line), found)
            self.assertEqual(told(AB, names, line), found)

    def test_the_dict_stays(self):
        names = dict(NAMES)
        for line in ("let S = a", "let A = S", "least S", "let S = X", "let S = +", ""):
            tried(AB, names, line)
            self.assertEqual(names, NAMES)

    def test_names_after_a_line(self):
        names = dict(NAMES)
        for line, found in (("let S = T", {**NAMES, "S": "(a)"}), ("let A = a S", {**NAMES, "A": "a ((a + 2 b)*)"}),
                            ("let S = X", NAMES), ("let S = +", NAMES), ("let S = c", NAMES), ("least S", NAMES),
                            ("", NAMES), ("# let S = a", NAMES), ("let s = a", NAMES), (5, NAMES), (None, NAMES),
                            ("let S = " + "T" * 1999, NAMES)):
            got = names_after(AB, names, line)
            self.assertEqual(got, found)
            self.assertIsNot(got, names)
            self.assertEqual(names, NAMES)


class Texts(unittest.TestCase):
    def test_places(self):
        for line, at in (
                ("least +", 6), ("  least   +  ", 10), ("let A = +", 8), ("let A=+", 6), ("   let   A   =   +", 17),
                ("weight + ; a", 7), ("weight a ; c", 11), ("weight a;c", 9), ("  weight  a  ;  c  ", 16),
                ("compare a ; +", 12), ("compare a;+", 10), ("compare + ; a", 8), ("compare   a   ;   (", 18),
                ("lengths (a", 8), ("write a)", 6), ("accept x ; a", 7), ("accept 1, 0, , ; c", 17),
                ("accept   1, 0, ,;c", 17), ("state 1", 6), (" state  1", 8), ("once 1, 1, ,", 5), ("once  1,0,,", 6),
                ("weight a a ; a a", 13), ("compare a ; a a +", 12), ("least a + c", 6), ("least [c:]a", 6),
                ("let A = c", 8), ("write c", 6), ("compare a ; c", 12), ("compare c ; a", 8), ("compare ab ; b c", 13)):
            self.assertEqual(tried(AB, {}, line), ("text", at), line)
            self.assertEqual(told(AB, {}, line), ("text", at))

    def test_words(self):
        for word in ("a", "b", "ab", "ab" * 10, "b" * 19, "a" * 20):
            self.assertEqual(read_line(AB, {}, "weight 1;" + word)[2], word)
            self.assertEqual(read_line(AB, {}, "accept 1, 0, , ; " + word)[2], word)
        self.assertEqual(read_line(AB, {}, "weight 1;-")[2], "")
        for word in ("a" * 21, "ab" * 11, "c", "abc", "A", "--", "-a", "a-", "a b", "1", "()", "a" * 20 + "c", "0", ",",
                     "a" * 21 + "c"):
            self.assertEqual(tried(AB, {}, "weight 1;" + word), ("text", 9))
            self.assertEqual(tried(AB, {}, "accept 1, 0, , ; " + word), ("text", 17))

    def test_letters_of_the_alphabet(self):
        for letters in ("ab", "c", "cab"):
            for text in ("a", "c", "a b", "[c:]a", "[:ab]1", "1", "(a)* c"):
                used = set(re.findall("[a-z]", text))
                for line, at in ((f"least {text}", 6), (f"let A = {text}", 8), (f"compare 1;{text}", 10)):
                    found = tried(Alphabet(letters), {}, line)
                    if used <= set(letters):
                        self.assertNotEqual(found[0], "text")
                    else:
                        self.assertEqual(found, ("text", at))

    def test_plain_machines(self):
        for a in (Plain(AB, 0), Plain(AB, 1), Plain(AB, 3, starts=(), ends=(0, 2)), PLAIN,
                  Plain(AB, 12, starts=(0, 11), ends=(10,), moves=((10, "b", 11), (0, "a", 0)))):
            text = str(a).replace(";", ",").rstrip(" ")
            for line, found in ((f"state {text}", ("state", a)), (f"once  {text} ", ("once", a)),
                                (f"accept {text};-", ("accept", a, "")), (f"accept {text} ; ab", ("accept", a, "ab"))):
                self.assertEqual(read_line(AB, {}, line), found)
        for text in ("1, 0, , ,", "1, 0,", "1, 0", "1,0,,", "1 , 0 , ,", "0, 0, ,", "2, 1 0, ,", "1, 0, ,0a0", "1, 0, , 0c0",
                     "1001, , ,", "1, 0, , 0a0,", "1, 0, , 0a0 0a0", "a", ",", ", , ,", "01, 0, ,", "1, 0,  ,",
                     "1, 0, , 0a0 ,", "S", "1. 0. ."):
            self.assertEqual(tried(AB, {}, "state " + text), ("text", 6), text)
            self.assertEqual(tried(AB, {}, "accept " + text + " ; a"), ("text", 7), text)

    def test_expressions_beyond_the_bounds(self):
        for text in ("a " * 101 + "a", "(" * 41 + "a" + ")" * 41, "~" * 41 + "a", "[abababababa:]a", "1" * 61, "2/4",
                     "a" + "*" * 40):
            self.assertEqual(tried(AB, {}, "least " + text), ("text", 6))
        self.assertEqual(tried(AB, {}, "least " + "a" + "*" * 39)[0], "least")


class AsTold(unittest.TestCase):
    def test_changed_lines(self):
        choices = Choices(171)
        lines = ("let A = S b", "weight (a + T)* ; ab", "least S T", "compare T ; (a + b)*", "lengths a # b", "write ~a",
                 "accept 2, 0, 1, 0a1 1b1 ; abb", "state 2, 0, 1, 0a1", "once 1, 0, ,", "# a", " least  a")
        kinds = {}
        for line in lines:
            for _ in range(400):
                changed = line
                for _ in range(1 + choices.below(2)):
                    at = choices.below(len(changed) + 1)
                    new = choices.of(("", "", " ", "  ", ";", "=", "a", "S", "X", "+", "1", ",", "-", ")", "#", "c"))
                    changed = changed[:at] + new + changed[at + choices.below(2):]
                found = tried(AB, NAMES, changed)
                self.assertEqual(found, told(AB, NAMES, changed), changed)
                kind = found if found[0] == "refused" else found[0]
                kinds[kind] = kinds.get(kind, 0) + 1
        for kind in ("let", "weight", "least", "compare", "lengths", "write", "accept", "state", "once", "empty", "text",
                     ("refused", "name")):
            self.assertGreater(kinds.get(kind, 0), 20, kind)


class MachineText(unittest.TestCase):
    def test_as_they_stand(self):
        f = numbers_machine("ab", (1, "-1/2"), (((0, 1), ("2/3", -4)), ((1, 0), (0, 1))), (10 ** 20, 0))
        for machine, text in (
                (null(AB), ". | a: . | b: . | ."), (null(Alphabet("a")), ". | a: . | ."),
                (null(Alphabet("dbca")), ". | d: . | b: . | c: . | a: . | ."),
                (constant(AB, Ratio(-1, 3)), "-1/3 | a: 0 | b: 0 | 1"),
                (letter(Alphabet("ba"), "a"), "1 0 | b: 0 0, 0 0 | a: 0 1, 0 0 | 0 1"),
                (f, "1 -1/2 | a: 0 1, 2/3 -4 | b: 1 0, 0 1 | 100000000000000000000 0"),
                (Machine(Alphabet("z"), vector(1, 2, 3), [matrix((1, 2, 3), (4, 5, 6), (7, 8, 9))], vector(0, 0, "1/7")),
                 "1 2 3 | z: 1 2 3, 4 5 6, 7 8 9 | 0 0 1/7")):
            self.assertEqual(machine_text(machine), text)

    def test_it_can_be_read_back(self):
        choices = Choices(172)
        for letters in ("a", "ba", "cab", "wxyz"):
            for size in (1, 2, 3, 4):
                machine = choices.machine(letters, size)
                row, *matrices, column = machine_text(machine).split(" | ")
                self.assertEqual(vector(*row.split(" ")), machine.row)
                self.assertEqual(vector(*column.split(" ")), machine.column)
                self.assertEqual([text[:3] for text in matrices], [x + ": " for x in letters])
                self.assertEqual([matrix(*[row.split(" ") for row in text[3:].split(", ")]) for text in matrices],
                                 list(machine.matrices))


class Kinds(unittest.TestCase):
    def test_of_what_is_returned(self):
        for line in ("weight a ; -", "compare a ; b", "accept 1, 0, , ; a"):
            kinds = [Expression, str, Plain]
            self.assertTrue(all(type(each) in kinds for each in read_line(AB, {}, line)))

import unittest

from samples import VALUES
from wordweight.checker import takes_agreement, takes_least
from wordweight.build import build
from wordweight.console import Console
from wordweight.errors import Malformed, Refused
from wordweight.log import first_wrong, read_log
from wordweight.meaning import weight
from wordweight.replies import Reply
from wordweight.text import read
from wordweight.words import Alphabet

LINES = ("let S = (a + 2 b)*", "weight S ; abb", "x", "least S", "let S = +", "let T = S a", "compare S ; T", "", "# a",
         "weight T ; ba", "let S = b", "weight T ; ba", "weight S ; b", "state 1, 0, ,", "once 2, 0 1, 0 1,", "write S")


class Entering(unittest.TestCase):
    def test_entries_and_replies(self):
        console = Console("ab")
        told = []
        for line in LINES:
            reply = console.enter(line)
            self.assertIsInstance(reply, Reply)
            told.append((line, reply))
            self.assertEqual(len(console), len(told))
            self.assertEqual(list(console), told)
            self.assertEqual([entry for entry in console], told)
        self.assertEqual([reply.text for _, reply in told[:3]], ["", "4", "text 0"])
        self.assertEqual([reply.text for _, reply in told[8:13]], ["", "2", "", "2", "1"])
        self.assertEqual(first_wrong(Alphabet("ab"), list(console)), -1)

    def test_an_empty_console(self):
        console = Console("ba")
        self.assertEqual(len(console), 0)
        self.assertEqual(list(console), [])
        self.assertEqual(console.names(), {})
        self.assertEqual(console.log(), "")

    def test_the_alphabet(self):
        self.assertEqual(Console("ba").enter("compare a ; b").text, "b")
        self.assertEqual(Console("ab").enter("compare a ; b").text, "a")
        self.assertEqual(Console("xyzw").enter("weight w x ; wx").text, "1")
        for letters in ("", "aa", "A", "abcde", "a b", None, 5, ["a"], Alphabet("ab")):
            with self.assertRaises(Malformed):
                Console(letters)

    def test_two_consoles(self):
        one, two = Console("ab"), Console("ab")
        one.enter("let S = a")
        self.assertEqual(len(two), 0)
        self.assertEqual(two.names(), {})
        self.assertEqual(two.enter("least S").text, "refused name")
        self.assertEqual(one.enter("weight S ; a").text, "1")

    def test_values_that_are_no_lines(self):
        console = Console("ab")
        for value in VALUES:
            if not isinstance(value, str):
                reply = console.enter(value)
                self.assertEqual((reply.kind, reply.text, reply.data), ("error", "text 0", ()))
        self.assertEqual(first_wrong(Alphabet("ab"), list(console)), -1)
        with self.assertRaises(Malformed):
            console.log()


class Definitions(unittest.TestCase):
    def test_names(self):
        console = Console("ab")
        for line, names in (
                ("let S = (a + 2 b)*", {"S": "(a + 2 b)*"}), ("let T = S a", {"S": "(a + 2 b)*", "T": "((a + 2 b)*) a"}),
                ("let S = b", {"S": "b", "T": "((a + 2 b)*) a"}), ("let S = S S", {"S": "(b) (b)", "T": "((a + 2 b)*) a"}),
                ("least S", {"S": "(b) (b)", "T": "((a + 2 b)*) a"}), ("let T =  1 ", {"S": "(b) (b)", "T": "1"})):
            self.assertNotEqual(console.enter(line).kind, "error")
            self.assertEqual(console.names(), names)

    def test_a_new_dict_each_time(self):
        console = Console("ab")
        console.enter("let S = a")
        names = console.names()
        self.assertIs(type(names), dict)
        self.assertIsNot(console.names(), names)
        names["S"] = "b"
        names["T"] = "a"
        self.assertEqual(console.names(), {"S": "a"})
        self.assertEqual(console.enter("weight S ; a").text, "1")
        self.assertEqual(console.enter("least T").text, "refused name")
        before = console.names()
        console.enter("let T = b")
        self.assertEqual(before, {"S": "a"})

    def test_lines_with_an_error_change_nothing(self):
        console = Console("ab")
        console.enter("let S = a")
        for line, text in (("let S = +", "text 8"), ("let S = X", "refused name"), ("let S = c", "text 8"), ("let s = b", "text 0"),
                           ("let S = " + "S" * 1990, "refused long"), ("let T = S + T", "refused name"), ("let T", "text 0"),
                           ("let S = b ; b", "text 0"), (" let  S  =  (", "text 12")):
            reply = console.enter(line)
            self.assertEqual((reply.kind, reply.text, reply.data), ("error", text, ()))
            self.assertEqual(console.names(), {"S": "a"})
        self.assertEqual(len(console), 10)

    def test_the_full_text_of_the_moment(self):
        console = Console("ab")
        for line in ("let A = a", "let B = A A", "let A = b"):
            console.enter(line)
        self.assertEqual(console.enter("weight B ; aa").text, "1")
        self.assertEqual(console.enter("weight A B ; baa").text, "1")
        self.assertEqual(console.names(), {"A": "b", "B": "(a) (a)"})


class Bounds(unittest.TestCase):
    def refuses(self, console, line):
        before = (len(console), list(console), console.names(), console.log())
        with self.assertRaises(Refused) as caught:
            console.enter(line)
        self.assertEqual(caught.exception.reason, "lines")
        self.assertEqual((len(console), list(console), console.names(), console.log()), before)

    def test_the_told_number_of_lines(self):
        for most in (0, 1, 2, 7):
            console = Console("ab", most=most)
            for at in range(most):
                console.enter(("let S = a", "x", "", "weight S ; a")[at % 4])
            self.assertEqual(len(console), most)
            for line in ("let S = b", "let T = b", "", "x", "weight 1 ; -", "least S", 5):
                self.refuses(console, line)

    def test_1000_lines_unless_told_otherwise(self):
        console = Console("ab")
        for _ in range(999):
            console.enter("")
        console.enter("let S = a")
        self.assertEqual(len(console), 1000)
        self.refuses(console, "")
        self.refuses(console, "let S = b")
        more = Console("ab", most=1002)
        for _ in range(1002):
            more.enter("#")
        self.refuses(more, "#")


class Log(unittest.TestCase):
    def test_it_can_be_read(self):
        console = Console("ab")
        for at, line in enumerate(LINES):
            console.enter(line)
            text = console.log()
            self.assertEqual(text.count("\n"), 3 * (at + 1))
            self.assertEqual(read_log(text), list(console))
            self.assertEqual(console.log(), text)
        self.assertTrue(text.startswith("> let S = (a + 2 b)*\n= done \n# (t)\n> weight S ; abb\n= number 4\n# (t (r 4 1))\n"))


class MainFacts(unittest.TestCase):
    SAME = (("(a + b)*", "(a* b)* a*"), ("a # b", "a b + b a"), ("(a + 1/2 b)* & (a + 2 b)*", "(a + b)*"), ("~(a a b)", "b a a"),
            ("[ab:](a b)*", "(a b)*"), ("1 + a a*", "a*"), ("2/3 a + 1/3 a", "a"), ("(a b)* a", "a (b a)*"), ("0 a", "0"))
    OTHER = (("(a + 2 b)*", "(a + b)*", "b"), ("a* b*", "b* a*", "ab"), ("a # a", "a a", "aa"), ("(a a)*", "(a a a)*", "aa"),
             ("1", "0", ""), ("a b a b a", "a b a b b", "ababa"), ("(a + b)* a", "(a + b)* b", "a"))

    def test_series_made_in_different_ways(self):
        console = Console("ab")
        ab = Alphabet("ab")
        for one, two in self.SAME:
            console.enter("let A = " + one)
            console.enter("let B = " + two)
            reply = console.enter("compare A ; B")
            self.assertEqual((reply.kind, reply.text), ("agree", "agree"))
            self.assertIs(takes_agreement(build(read(one), ab), build(read(two), ab), reply.data[0]), True)
            first, second = console.enter("least A"), console.enter("least B")
            self.assertEqual(first, second)
            self.assertIs(takes_least(*first.data), True)
            self.assertEqual(console.enter("lengths A"), console.enter("lengths B"))
        self.assertEqual(first_wrong(ab, read_log(console.log())), -1)

    def test_different_series(self):
        console = Console("ab")
        for one, two, word in self.OTHER:
            for line in (f"compare {one} ; {two}", f"compare {two} ; {one}"):
                reply = console.enter(line)
                self.assertEqual((reply.kind, reply.text, reply.data), ("differ", word or "-", (word,)))
            self.assertNotEqual(console.enter(f"least {one}"), console.enter(f"least {two}"))
            self.assertNotEqual(weight(read(one), word), weight(read(two), word))
            self.assertTrue(all(weight(read(one), w) == weight(read(two), w)
                                for w in Alphabet("ab").words(len(word)) if Alphabet("ab").compare(w, word) < 0))
            self.assertNotEqual(console.enter(f"weight {one} ; {word or '-'}"), console.enter(f"weight {two} ; {word or '-'}"))
        self.assertEqual(first_wrong(Alphabet("ab"), list(console)), -1)


class Examples(unittest.TestCase):
    def test_of_the_document(self):
        console = Console("ab")
        self.assertEqual(console.enter("let S = (a + 2 b)*").kind, "done")
        self.assertEqual(console.enter("weight S ; abb").text, "4")
        self.assertEqual(console.enter("compare S ; (a + b)*").text, "b")

import unittest

from samples import VALUES, Choices
from wordweight.console import Console
from wordweight.errors import Malformed, NoText
from wordweight.linear import Matrix
from wordweight.log import first_wrong, read_log, write_log
from wordweight.machine import letter, null
from wordweight.packing import packed, written
from wordweight.poly import Poly
from wordweight.ratio import Ratio
from wordweight.replies import Reply
from wordweight.words import Alphabet

AB = Alphabet("ab")


def nested(depth):
    value = ()
    for _ in range(depth - 1):
        value = (value,)
    return value


LINES = ("let S = (a + 2 b)*", "weight S ; abb", "least S", "compare S ; (a + b)*", "let S = a b", "weight S ; ab",
         "# a line", "", "compare S ; a b + 0", "lengths S", "write S", "let T = S S", "accept 2, 0, 1, 0a1 1b1 ; abb",
         "state 2, 0, 1, 0a1 1b1", "once 2, 0, 1, 0a1 1b1", "once 2, 0 1, 0 1,", "let S = +", "least X", "x", "write T",
         "weight T ; abab", "let S = X", "weight S ; ab", " ", "compare 1;0")
MADE = (
    ("", Reply("done")), ("a line", Reply("x")), ("  ", Reply("abcdefghijkl", "  ")), ("> ", Reply("error", "= # >")),
    ("#", Reply("number", "1", (Ratio(1),))), ("> > >", Reply("a", "a", ((), ("", (Ratio(-1, 2), 7, -8))))),
    ("\u00e4 \t\r\x0b\u2028", Reply("text", "\u00df\r", ("abcdefghijklmnopqrstuvwxyz" * 3,))),
    ("m", Reply("machine", " ", (letter(AB, "a"), null(AB), Matrix((), 4), Poly([1, 2])))),
    ("deep", Reply("deep", "", nested(20))),
)


def text_of(entries):
    return "".join(f"> {line}\n= {reply.kind} {reply.text}\n# {written(packed(reply.data))}\n" for line, reply in entries)


def console_of(lines):
    console = Console("ab")
    for line in lines:
        console.enter(line)
    return console


class Writing(unittest.TestCase):
    def test_as_it_stands(self):
        self.assertEqual(write_log([]), "")
        self.assertEqual(write_log([("weight a ; b", Reply("number", "0", (Ratio(0),)))]),
                         "> weight a ; b\n= number 0\n# (t (r 0 1))\n")
        self.assertEqual(write_log([("", Reply("done")), ("x", Reply("error", "text 0"))]),
                         "> \n= done \n# (t)\n> x\n= error text 0\n# (t)\n")

    def test_reading_is_the_inverse(self):
        choices = Choices(191)
        entries = list(MADE) + list(console_of(LINES))
        for many in (0, 1, 2, 5, len(entries)):
            some = [choices.of(entries) for _ in range(many)]
            text = write_log(some)
            self.assertEqual(text, text_of(some))
            found = read_log(text)
            self.assertIs(type(found), list)
            self.assertEqual(found, some)
            for entry in found:
                self.assertIs(type(entry), tuple)
                self.assertIsInstance(entry[1], Reply)
                self.assertIs(type(entry[1].data), tuple)
            self.assertEqual(write_log(found), text)
        for entry in entries:
            self.assertEqual(read_log(write_log([entry])), [entry])

    def test_arguments_stay(self):
        entries = list(MADE)
        self.assertEqual(write_log(entries), write_log(entries))
        self.assertEqual(entries, list(MADE))

    def test_entries_that_cannot_be_written(self):
        done = Reply("done")
        for entry in VALUES + (
                done, ("a",), ("a", done, done), ["a", done], ("a", "done"), ("a", ("done", "", ())), (done, "a"),
                (5, done), (None, done), (("a",), done), (True, done), ("a\n", done), ("\n", done), ("a\nb", done),
                ("a", Reply("")), ("a", Reply("Done")), ("a", Reply("done ")), ("a", Reply("a b")), ("a", Reply("a1")),
                ("a", Reply("abcdefghijklm")), ("a", Reply("\u00e4")), ("a", Reply(None)), ("a", Reply(5)),
                ("a", Reply("a\n")), ("a", Reply(("a",))), ("a", Reply("a", None)), ("a", Reply("a", "\n")),
                ("a", Reply("a", "b\nc")), ("a", Reply("a", 5)), ("a", Reply("a", ())), ("a", Reply("a", "", None)),
                ("a", Reply("a", "", [])), ("a", Reply("a", "", 5)), ("a", Reply("a", "", "a")),
                ("a", Reply("a", "", Ratio(1))), ("a", Reply("a", "", (None,))), ("a", Reply("a", "", (True,))),
                ("a", Reply("a", "", ([],))), ("a", Reply("a", "", ("A",))), ("a", Reply("a", "", (AB,))),
                ("a", Reply("a", "", nested(61))), ("a", Reply("a", "", (nested(60),))), ("a", Reply("a", "", (done,))),
                ("a", Reply("a", "", null(AB))), ("a", Reply("a", "", Poly([])))):
            if entry == ("least a", done):
                continue
            for entries in ([entry], list(MADE) + [entry], [entry] + list(MADE)):
                with self.assertRaises(Malformed):
                    write_log(entries)

    def test_the_depth_of_data(self):
        entry = ("a", Reply("a", "", nested(60)))
        self.assertEqual(read_log(write_log([entry])), [entry])


class Reading(unittest.TestCase):
    def refuses(self, text, at):
        with self.assertRaises(NoText) as caught:
            read_log(text)
        self.assertEqual(caught.exception.at, at, text)

    def test_as_it_stands(self):
        self.assertEqual(read_log(""), [])
        self.assertEqual(read_log("> \n= a \n# (t)\n"), [("", Reply("a"))])
        self.assertEqual(read_log(">  x \n= abc  y \n# (t (i 5) (s))\n"), [(" x ", Reply("abc", " y ", (5, "")))])

    def test_lines_that_do_not_have_the_form(self):
        good = "> line\n= kind text\n# (t (i 1))\n"
        self.assertEqual(len(read_log(good * 3)), 3)
        for old, new, at in (
                ("> line", ">line", 0), ("> line", ">", 0), ("> line", " > line", 0), ("> line", "= line", 0),
                ("> line", "", 0), ("> line", "# line", 0), ("> line", "line", 0), ("> line\n", "", 0), ("> line", ">\tline", 0),
                ("= kind text", "= kind", 1), ("= kind text", "=kind text", 1), ("= kind text", "=  text", 1),
                ("= kind text", "= Kind text", 1), ("= kind text", "= kind1 text", 1), ("= kind text", "= ", 1),
                ("= kind text", "=", 1), ("= kind text", "> kind text", 1), ("= kind text", "", 1),
                ("= kind text", "= abcdefghijklm text", 1), ("= kind text", "= k-d text", 1), ("= kind text\n", "", 1),
                ("= kind text", "# (t)", 1), ("= kind text", "= kind\ttext", 1), ("= kind text", "= \u00e4 text", 1),
                ("# (t (i 1))", "# (t (i 1)", 2), ("# (t (i 1))", "# (t (i 1)) ", 2), ("# (t (i 1))", "#(t (i 1))", 2),
                ("# (t (i 1))", "# ", 2), ("# (t (i 1))", "#", 2), ("# (t (i 1))", "", 2), ("# (t (i 1))", "# (i 1)", 2),
                ("# (t (i 1))", "# (t (i 01))", 2), ("# (t (i 1))", "# (t (r 2 2))", 2), ("# (t (i 1))", "# t", 2),
                ("# (t (i 1))", "# ()", 2), ("# (t (i 1))", "# 1", 2), ("# (t (i 1))", "# (s)", 2), ("# (t (i 1))", "# (p)", 2),
                ("# (t (i 1))", "# (t  (i 1))", 2), ("# (t (i 1))", "# (T (i 1))", 2), ("# (t (i 1))", "> (t (i 1))", 2),
                ("# (t (i 1))", "# (t 1)", 2), ("# (t (i 1))\n", "", 2), ("# (t (i 1))", "#  (t (i 1))", 2),
                ("# (t (i 1))", "# " + "(t " * 60 + "(t)" + ")" * 60, 2)):
            self.assertIn(old, good)
            if new != "" or "\n" not in old or at < 2:
                self.refuses(good.replace(old, new), at)
            self.refuses(good * 2 + good.replace(old, new) + good, 6 + at)
            # The first wrong line counts.
            self.refuses(good * 2 + good.replace(old, new) + "x\n" + good + "y", 6 + at)

    def test_texts_that_end_too_early(self):
        text = text_of(MADE[:3])
        for end in range(len(text)):
            if text[:end].count("\n") % 3 == 0 and (end == 0 or text[end - 1] == "\n"):
                self.assertEqual(len(read_log(text[:end])), text[:end].count("\n") // 3)
            else:
                self.refuses(text[:end], text[:end].count("\n"))
        for text, at in (("x", 0), ("> a", 0), ("> a\n", 1), ("> a\n= b ", 1), ("> a\n= b \n", 2), ("> a\n= b \n# (t)", 2),
                         ("> a\n= b \n# (t)\n ", 3), ("> a\n= b \n# (t)\n> ", 3), ("> a\n= b \n# (t)\n> \n", 4), (" ", 0),
                         ("\n", 0), ("> a\n\n", 1), ("> a\n= b \n# (t)\n\n", 3), ("> a\nx", 1), ("x\n> a", 0)):
            self.refuses(text, at)

    def test_other_line_ends(self):
        self.assertEqual(read_log("> a\r\n= b \r\n# (t)\n"), [("a\r", Reply("b", "\r"))])
        self.refuses("> a\r= b \r# (t)\r", 0)
        self.refuses("> a\n= b \n# (t)\r\n", 2)
        self.refuses("> a\u2028= b \n# (t)\n", 1)

    def test_values_that_are_no_strings(self):
        for value in VALUES + (b"", ["> a"], [("a", Reply("a"))]):
            if not isinstance(value, str):
                self.refuses(value, 0)
            elif value:
                self.refuses(value, 0)


class FirstWrong(unittest.TestCase):
    def test_right_logs(self):
        entries = list(console_of(LINES))
        self.assertEqual(first_wrong(AB, entries), -1)
        self.assertEqual(first_wrong(AB, read_log(write_log(entries))), -1)
        self.assertEqual(first_wrong(AB, []), -1)
        for many in range(len(entries)):
            self.assertEqual(first_wrong(AB, entries[:many]), -1)

    def test_a_changed_entry_at_each_place(self):
        entries = list(console_of(LINES))
        for at, (line, reply) in enumerate(entries):
            for changed in ((line, Reply(reply.kind + "x", reply.text, reply.data)), (line, "done"), None, [line, reply],
                            (line, Reply(reply.kind, reply.text + " ", reply.data)), (line, reply, reply), (line,),
                            (line, Reply(reply.kind, reply.text, reply.data + (1,))), ("weight 77 ; -", reply)):
                self.assertEqual(first_wrong(AB, entries[:at] + [changed] + entries[at + 1:]), at)
                self.assertEqual(first_wrong(AB, entries[:at] + [changed] * 3), at)

    def test_definitions_between(self):
        entries = list(console_of(["let S = a", "weight S ; a", "let S = b", "weight S ; a", "let S = +", "let S = X",
                                   "let T = S", "weight T ; b", "let S = a a", "weight T ; b", "weight S ; aa"]))
        self.assertEqual([reply.text for _, reply in entries],
                         ["", "1", "", "0", "text 8", "refused name", "", "1", "", "1", "1"])
        self.assertEqual(first_wrong(AB, entries), -1)
        # Without a definition, or with another one, the entries that need it are wrong.
        self.assertEqual(first_wrong(AB, entries[1:]), 0)
        self.assertEqual(first_wrong(AB, entries[:2] + entries[3:]), 2)
        self.assertEqual(first_wrong(AB, entries[:6] + entries[7:]), 6)
        self.assertEqual(first_wrong(AB, entries[:8] + entries[9:]), 9)
        self.assertEqual(first_wrong(AB, [entries[0], entries[2], entries[1]]), 2)
        self.assertEqual(first_wrong(AB, [("let S = a", Reply("done"))] + entries[2:4] + [entries[1]]), 3)

    def test_definitions_with_an_error_change_nothing(self):
        entries = [("let S = a", Reply("done")), ("let S = (", Reply("error", "text 8")),
                   ("weight S ; a", Reply("number", "1", (Ratio(1),))), ("let S = " + "S" * 1000, Reply("error", "refused long")),
                   ("weight S ; a", Reply("number", "1", (Ratio(1),)))]
        self.assertEqual(first_wrong(AB, entries), -1)

    def test_other_alphabets(self):
        entries = list(console_of(["weight a ; a", "compare a b ; b a", "let S = c"]))
        self.assertEqual(first_wrong(AB, entries), -1)
        self.assertEqual(first_wrong(Alphabet("ba"), entries), 1)
        self.assertEqual(first_wrong(Alphabet("b"), entries), 0)
        self.assertEqual(first_wrong(Alphabet("abc"), entries), 2)

    def test_values_of_every_kind(self):
        for value in VALUES:
            self.assertEqual(first_wrong(AB, [value]), 0)
            self.assertEqual(first_wrong(AB, [("", Reply("done")), value, ("x", Reply("done"))]), 1)
        self.assertEqual(first_wrong(AB, [(5, Reply("error", "text 0")), ("", Reply("done"))]), -1)

    def test_arguments_stay(self):
        entries = list(console_of(LINES))
        copy = list(entries)
        first_wrong(AB, entries)
        self.assertEqual(entries, copy)

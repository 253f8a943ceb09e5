import unittest

from samples import VALUES, Choices, all_words, fraction, vector, weight_of
from wordweight.build import build
from wordweight.checker import takes_agreement, takes_least
from wordweight.deeds import hadamard
from wordweight.differ import compare
from wordweight.forms import least_form
from wordweight.lengths import length_quotient, length_sums
from wordweight.linear import Matrix
from wordweight.machine import Machine, constant, letter, null
from wordweight.meaning import weight
from wordweight.plain import read_plain
from wordweight.poly import Poly
from wordweight.ratio import Ratio
from wordweight.replies import Reply, is_right, reply_to
from wordweight.sheet import machine_text
from wordweight.subsets import counting, least_machine, unambiguous
from wordweight.table import show_least
from wordweight.text import read, show
from wordweight.unbuild import unbuild
from wordweight.words import Alphabet

AB = Alphabet("ab")
NAMES = {"S": "(a + 2 b)*", "T": "a", "U": "(T)"}
TEXTS = ("0", "1", "-1/2", "a", "b", "a b", "(a + b)*", "(a + 2 b)*", "a* b*", "(a b)* a", "~(a b b)", "a # b", "2 a + b*",
         "[a:](a + b)*", "(1/2 a)* & (a + b)*", "a a # b", "[:b](a b)*", "b (a + 1/3 b)*", "a b a b a", "(a* b)* a*")
PLAINS = ("0, , ,", "1, 0, ,", "1, 0, 0, 0a0 0b0", "2, 0, 1, 0a1 1b1", "2, 0 1, 0 1,", "2, 0, 1, 0a0 0a1 1b1",
          "3, 0, 2, 0a1 0a2 1b2 2b2", "2, , 0 1, 0a1", "3, 0, 2, 0a0 0b0 0b1 1a2 1b2")


def fields(reply):
    return (reply.kind, reply.text, reply.data)


def shown(word):
    return word or "-"


class Replies(unittest.TestCase):
    def check(self, line, *told, names=NAMES, alphabet=AB):
        found = reply_to(alphabet, names, line)
        self.assertIsInstance(found, Reply)
        self.assertEqual(fields(found), told, line)
        self.assertEqual([type(each) for each in fields(found)], [str, str, tuple])
        self.assertEqual(reply_to(alphabet, names, line), found)
        self.assertIs(is_right(alphabet, names, (line, found)), True)
        return found


class TheReply(unittest.TestCase):
    def test_fields(self):
        self.assertEqual(fields(Reply("done")), ("done", "", ()))
        self.assertEqual(fields(Reply("number", "1", (Ratio(1),))), ("number", "1", (Ratio(1),)))
        self.assertEqual(fields(Reply("a", text="b", data=(1,))), ("a", "b", (1,)))
        self.assertEqual(fields(Reply(kind="a", data=("x",))), ("a", "", ("x",)))

    def test_equality(self):
        one = Reply("number", "1", (Ratio(1),))
        self.assertTrue(one == Reply("number", "1", (Ratio(1),)))
        for other in (Reply("numbers", "1", (Ratio(1),)), Reply("number", "", (Ratio(1),)), Reply("number", "1"),
                      Reply("number", "1", (Ratio(2),)), Reply("number", "1", (Ratio(1), Ratio(1))),
                      Reply("number", "1", [Ratio(1)]), Reply("number", "1", Ratio(1)), Reply("number")):
            self.assertIs(one == other, False)
            self.assertIs(one != other, True)
        for value in VALUES + (fields(one), list(fields(one)), ("number", "1", (Ratio(1),))):
            if not isinstance(value, Reply):
                self.assertIs(one == value, False)
        self.assertIs(Reply("done") == Reply("done", "", ()), True)


class ByCommand(Replies):
    def test_done(self):
        for line in ("let A = a", "let S = (a* b)*", "let U = S T", "", "   ", "# a", "#", "  # let a", "let A = (1)*"):
            self.check(line, "done", "", ())

    def test_weight(self):
        for text in TEXTS:
            for word in ("", "a", "b", "ab", "aab", "abab"):
                q = weight(read(text), word)
                self.check(f"weight {text} ; {shown(word)}", "number", str(q), (q,))
        self.check("weight S;abb", "number", "4", (Ratio(4),))
        self.check("weight S T;ba", "number", "2", (Ratio(2),))
        self.check("weight U;-", "number", "0", (Ratio(0),), names={"U": "a"})

    def test_least(self):
        for text in TEXTS:
            least = least_form(build(read(text), AB))
            found = self.check(f"least {text}", "machine", machine_text(least), (least, show_least(least)))
            machine, paper = found.data
            self.assertIs(takes_least(machine, paper), True)
            self.assertEqual(len(paper[1]), machine.size())
            for word in all_words("ab", 3):
                self.assertEqual(weight_of(machine, word), fraction(weight(read(text), word)))
        self.check("least 0", "machine", ". | a: . | b: . | .", (null(AB), ("least", (), (), ())))

    def test_compare(self):
        kinds = {}
        for one in TEXTS:
            for two in TEXTS:
                word = next((w for w in all_words("ab", 6) if weight(read(one), w) != weight(read(two), w)), None) if (
                    one != two) else None
                if word is None:
                    machines = [build(read(text), AB) for text in (one, two)]
                    paper = compare(*machines)[1]
                    self.assertIs(takes_agreement(*machines, paper), True)
                    self.check(f"compare {one} ; {two}", "agree", "agree", (paper,))
                else:
                    self.check(f"compare {one} ; {two}", "differ", shown(word), (word,))
                kinds[word is None, word == ""] = True
        self.assertEqual(len(kinds), 3)

    def test_lengths(self):
        for text in TEXTS:
            p, q = length_quotient(build(read(text), AB))
            found = self.check(f"lengths {text}", "quotient", f"{p} / {q}", (p, q))
            sums = Poly(length_sums(build(read(text), AB), 9))
            self.assertEqual([(sums * found.data[1]).coefficient(k) for k in range(9)],
                             [found.data[0].coefficient(k) for k in range(9)])
        self.check("lengths (a+b)*", "quotient", "1 / 1 + -2*x", (Poly([1]), Poly([1, -2])))
        self.check("lengths a", "quotient", "1*x / 1", (Poly([0, 1]), Poly([1])))
        self.check("lengths 0", "quotient", "0 / 1", (Poly([]), Poly([1])))

    def test_write(self):
        for text in TEXTS:
            least = least_form(build(read(text), AB))
            if least.size() > 3:
                self.check(f"write {text}", "error", "refused size", ())
            else:
                found = self.check(f"write {text}", "expression", show(unbuild(least)), ())
                for word in all_words("ab", 3):
                    self.assertEqual(weight(read(found.text), word), weight(read(text), word))

    def test_write_and_the_size(self):
        for word, size in (("a", 2), ("ab", 3), ("abb", 4), ("aabb", 5)):
            self.assertEqual(least_form(build(read(word), AB)).size(), size)
            found = reply_to(AB, {}, "write " + word)
            if size <= 3:
                self.assertEqual(found.kind, "expression")
            else:
                self.check("write " + word, "error", "refused size", ())

    def test_accept(self):
        for text in PLAINS:
            a = read_plain(AB, text.replace(",", ";") + (" " if text[-1] == "," else ""))
            for word in all_words("ab", 3):
                self.check(f"accept {text} ; {shown(word)}", "answer", "yes" if a.runs(word) else "no", ())

    def test_state(self):
        for text in PLAINS:
            a = read_plain(AB, text.replace(",", ";") + (" " if text[-1] == "," else ""))
            found = self.check(f"state {text}", "plain", str(least_machine(a)).replace(";", ","), ())
            self.check("state " + found.text, "plain", found.text, ())
        self.check("state 2, 0, 1, 0a1 1b1", "plain", "3, 0, 1, 0a1 0b2 1a2 1b1 2a2 2b2", ())

    def test_once(self):
        kinds = {}
        for text in PLAINS:
            a = read_plain(AB, text.replace(",", ";") + (" " if text[-1] == "," else ""))
            word = next((w for w in all_words("ab", 5) if a.runs(w) > 1), None)
            kinds[word] = True
            if word is None:
                self.assertEqual(unambiguous(a)[0], "paper")
                self.check(f"once {text}", "paper", "once", (unambiguous(a)[1],))
            else:
                self.check(f"once {text}", "twice", shown(word), (word,))
        self.assertGreaterEqual(set(kinds), {None, "", "ab"})

    def test_other_alphabets(self):
        self.check("weight c;c", "number", "1", (Ratio(1),), alphabet=Alphabet("c"))
        self.check("compare b c ; c b", "differ", "cb", ("cb",), alphabet=Alphabet("cb"))
        self.check("compare b c ; c b", "differ", "bc", ("bc",), alphabet=Alphabet("bc"))
        self.check("least a", "error", "text 6", (), alphabet=Alphabet("c"))
        self.check("state 1, 0, 0,", "plain", "2, 0, 0, 0b1 0a1 1b1 1a1", (), alphabet=Alphabet("ba"))


class Errors(Replies):
    def test_texts_that_cannot_be_read(self):
        for line, at in (("x", 0), ("least", 0), ("let a = b", 0), ("weight + ; a", 7), ("weight a ; c", 11),
                         ("  least  +", 9), ("compare a ; c", 12), ("accept 1 ; a", 7), ("state 1, 1, ,", 6), (5, 0),
                         ("once 0, 0, ,", 5), ("let A = +", 8), ("#" * 2001, 0), (None, 0), (("least a",), 0), (True, 0),
                         ("least a\n", 0), ("least " + "a" * 41, 6), ("weight 1 ; " + "a" * 21, 11)):
            self.check(line, "error", f"text {at}", ())

    def test_refusals(self):
        for line, reason in (
                ("least X", "name"), ("let X = Y", "name"), ("compare a ; X", "name"), ("least " + "S" * 500, "long"),
                ("weight 1* ; a", "star"), ("least (a + 1)*", "star"), ("compare a ; 1*", "star"), ("write 1*", "star"),
                ("compare 1* ; a", "star"), ("lengths S*", "star"), ("least " + "a" * 31, "size"), ("write a b b", "size"),
                ("compare a ; " + "a" * 31, "size"), ("weight " + "a" * 31 + " ; a", "size"), ("write a b a b", "size"),
                ("lengths S # S # S # S # S # S", "size"), ("compare " + "a" * 31 + " ; 1*", "size"),
                ("compare 1* ; " + "a" * 31, "star")):
            self.check(line, "error", "refused " + reason, ())

    def test_sizes_up_to_60(self):
        self.assertEqual(reply_to(AB, {}, "least " + "a" * 30).kind, "machine")
        self.assertEqual(reply_to(AB, {}, "weight " + "a" * 30 + " + 1;-").kind, "error")

    def test_the_names_stay(self):
        names = dict(NAMES)
        for line in ("let S = a", "let A = b", "let A = X", "least S"):
            reply_to(AB, names, line)
            is_right(AB, names, (line, Reply("done")))
            self.assertEqual(names, NAMES)


LINES = ("let A = a b", "let A = (", "weight S ; abb", "weight a ; -", "weight a ; b c", "least S", "least a b", "least 0",
         "compare (a + b)* ; (a* b)* a*", "compare a ; b", "compare 1 ; 0", "compare S ; S", "lengths S", "lengths 1*",
         "write S", "write a b b", "accept 2, 0, 1, 0a1 1b1 ; abb", "accept 1, 0, , ; a", "state 2, 0, 1, 0a1 1b1",
         "once 2, 0, 1, 0a1 1b1", "once 2, 0 1, 0 1,", "once 3, 0, 2, 0a1 0a2 1b2 2b2", "# x", "x y", "least X", "write 0")


class Right(unittest.TestCase):
    def right(self, line, *told, names=NAMES):
        self.assertIs(is_right(AB, names, (line, Reply(*told))), True)

    def wrong(self, line, *told, names=NAMES):
        self.assertIs(is_right(AB, names, (line, Reply(*told))), False, (line, told[:2]))


class Entries(Right):
    def test_replies(self):
        for line in LINES:
            self.right(line, *fields(reply_to(AB, NAMES, line)))

    def test_other_lines(self):
        for line in LINES:
            for other in LINES:
                reply = reply_to(AB, NAMES, other)
                if reply != reply_to(AB, NAMES, line):
                    self.wrong(line, *fields(reply))
        for line, other in (("weight S ; abb", "weight S ; aba"), ("least a b", "least b a"), ("state 1, 0, ,", "state 1, 0, 0,"),
                            ("accept 1, 0, 0, ; -", "accept 1, 0, 0, ; a"), ("lengths a", "lengths a a"),
                            ("compare a ; b", "compare b b ; a b"), ("write a", "write b"), ("once 1, 0, ,", "once 2, 0, ,")):
            self.wrong(line, *fields(reply_to(AB, NAMES, other)))
            self.wrong(other, *fields(reply_to(AB, NAMES, line)))

    def test_other_kinds(self):
        for line in LINES:
            kind, text, data = fields(reply_to(AB, NAMES, line))
            for other in ("done", "number", "machine", "differ", "agree", "quotient", "expression", "answer", "plain",
                          "paper", "twice", "error", "", "x", kind.upper(), kind + " ", None, 0, (kind,), [kind]):
                if other != kind:
                    self.wrong(line, other, text, data)

    def test_other_texts(self):
        for line in LINES:
            kind, text, data = fields(reply_to(AB, NAMES, line))
            for other in (text + " ", " " + text, text + "a", text[:-1] if text else "-", "", "-", "yes ", "agree", "once",
                          text.upper() or "A", None, 0, (text,), [text], "text 1", "refused size", text.replace(" ", "  ")):
                if other != text:
                    self.wrong(line, kind, other, data)

    def test_other_data(self):
        for line in LINES:
            kind, text, data = fields(reply_to(AB, NAMES, line))
            for other in ((), list(data), data + (1,), data + data + ("x",), (None,), None, (data,), data[:-1], ("",), (0,),
                          "", 0, Ratio(1), (Ratio(1),), (Ratio(4), Ratio(1)), data[::-1] + ("",), (True,), Poly([1]), (text,),
                          Matrix((), 0), [], ("agree", (), (), ((), ())), (Poly([1]), Poly([1])), (null(AB), ())):
                if other != data and not (isinstance(other, tuple) and other == data):
                    self.wrong(line, kind, text, other)

    def test_values_that_are_no_entries(self):
        reply = Reply("done")
        for value in VALUES + (reply, ("",), ("", reply, ()), ["", reply], ((("", reply),)) + ((),), ("", ("done", "", ())),
                               ("", "done"), ("", None), ("", ["done"]), {"": reply}, "", (reply, ""), (reply, reply, reply),
                               ((), ()), None, True, ("", (reply,)), ("", [reply]), ("# a", fields(reply))):
            self.assertIs(is_right(AB, {}, value), False)
        self.assertIs(is_right(AB, {}, ("", reply)), True)

    def test_values_that_are_no_replies(self):
        for line in LINES:
            right = reply_to(AB, NAMES, line)
            for value in VALUES + (fields(right), list(fields(right)), right.text, right.kind, right.data, [right], (right,)):
                if not isinstance(value, Reply):
                    self.assertIs(is_right(AB, NAMES, (line, value)), False)

    def test_values_that_are_no_lines(self):
        for value in VALUES:
            if not isinstance(value, str):
                self.right(value, "error", "text 0")
                self.wrong(value, "done")
                self.wrong(value, "error", "text 1")
                self.wrong(value, "error")

    def test_values_of_every_kind_within(self):
        for line in LINES:
            reply = reply_to(AB, NAMES, line)
            for value in VALUES:
                for told in ((value, reply.text, reply.data), (reply.kind, value, reply.data),
                             (reply.kind, reply.text, value), (reply.kind, reply.text, (value,)),
                             (reply.kind, reply.text, reply.data[:1] + (value,)),
                             (reply.kind, reply.text, (value,) + reply.data[1:])):
                    found = is_right(AB, NAMES, (line, Reply(*told)))
                    if told == fields(reply):
                        self.assertIs(found, True)
                    else:
                        self.assertIs(found, False)

    def test_the_definitions_count(self):
        told = fields(reply_to(AB, NAMES, "least S"))
        self.right("least S", *told)
        self.wrong("least S", *told, names={"S": "a"})
        self.wrong("least S", *told, names={})
        self.right("least S", *told, names={"S": "(a + b + b)*"})
        self.right("least S", "error", "refused name", (), names={})


def changed_papers(paper):
    """Papers that differ from a paper of agreement in one thing, and show nothing."""
    name, rows, start, steps = paper
    yield ("least", rows, start, steps)
    yield (name, rows, start)
    yield (name, rows, start, steps, ())
    yield [name, rows, start, steps]
    yield (name, rows, start, steps[::-1]) if steps[::-1] != steps else (name, rows, start, ())
    yield (name, list(rows), start, steps)
    if rows:
        bent = (rows[0][0] + Ratio(1),) + rows[0][1:]
        yield (name, (bent,) + rows[1:], start, steps)
        yield (name, rows[1:], start, steps)
        yield (name, rows, tuple(q + Ratio(1) for q in start), steps)
        yield (name, rows, start[1:], steps)
        yield (name, rows, start, steps[1:])
        yield (name, rows, start, (steps[0][1:],) + steps[1:])
        yield (name, rows, start, ((vector(*[7] * len(rows)),) + steps[0][1:],) + steps[1:])


class Compare(Right):
    ONE, TWO = "(a + b)*", "(a* b)* a*"

    def machines(self, *texts):
        return [build(read(text), AB) for text in texts]

    def test_other_papers_of_the_pair(self):
        for one, two in ((self.ONE, self.TWO), (self.TWO, self.ONE), ("a b", "a b"), ("2 S", "S + S")):
            line = f"compare {one} ; {two}"
            kind, text, (paper,) = fields(reply_to(AB, NAMES, line))
            name, rows, start, steps = paper
            half = Ratio(1, 2)
            thinner = (name, tuple(tuple(half * q for q in row) for row in rows), tuple(q + q for q in start), steps)
            zeros = vector(*[0] * len(rows[0]))
            more = (name, rows + (zeros,), start + vector(3), tuple(
                tuple(row + vector(0) for row in each) + (vector(*[0] * (len(rows) + 1)),) for each in steps))
            for other in (thinner, more):
                self.assertNotEqual(other, paper)
                self.right(line, "agree", "agree", (other,))
                self.wrong(line, "agree", "", (other,))
                self.wrong(line, "agree", "agreed", (other,))
                self.wrong(line, "paper", "agree", (other,))
                self.wrong(line, "differ", "agree", (other,))
                self.wrong(line, "agree", "agree", (other, other))
                self.wrong(line, "agree", "agree", [other])
                self.wrong(line, "agree", "agree", other)
                self.wrong(line, "agree", "agree", ())

    def test_changed_papers(self):
        for one, two in ((self.ONE, self.TWO), ("a b + b", "b + a b"), ("a", "b")):
            line = f"compare {one} ; {two}"
            paper = compare(*self.machines(one, one))[1]
            for other in changed_papers(compare(*self.machines(one, two if one != "a" else "a"))[1]):
                self.wrong(line, "agree", "agree", (other,))
            if one == "a":
                self.wrong(line, "agree", "agree", (paper,))

    def test_papers_of_other_pairs(self):
        paper = compare(*self.machines(self.ONE, self.TWO))[1]
        turned = compare(*self.machines(self.TWO, self.ONE))[1]
        line, back = f"compare {self.ONE} ; {self.TWO}", f"compare {self.TWO} ; {self.ONE}"
        self.right(line, "agree", "agree", (paper,))
        self.right(back, "agree", "agree", (turned,))
        self.wrong(line, "agree", "agree", (turned,))
        self.wrong(back, "agree", "agree", (paper,))
        for texts in (("a", "a"), ("S", "S"), (self.ONE, self.ONE), (self.TWO, self.TWO), ("0", "0"), ("a", "b")):
            other = fields(reply_to(AB, NAMES, "compare {} ; {}".format(*texts)))
            self.wrong(line, *other)
            self.wrong(back, *other)

    def test_words(self):
        for line, word in (("compare a ; b", "a"), ("compare a b ; b a", "ab"), ("compare 1 ; 0", ""), ("compare a* ; S", "b")):
            self.right(line, "differ", shown(word), (word,))
            # Other words at which both differ are not the least one.
            for other in ("b", "ba", "ab", "a", "bb", ""):
                if other != word:
                    self.wrong(line, "differ", shown(other), (other,))
                    self.wrong(line, "differ", shown(word), (other,))
                    self.wrong(line, "differ", shown(other), (word,))
            self.wrong(line, "differ", word + " ", (word,))
            self.wrong(line, "agree", "agree", (word,))
        self.wrong("compare 1 ; 0", "differ", "", ("",))
        self.wrong("compare 1 ; 0", "differ", "-", ("-",))


class Least(Right):
    def other_papers(self, machine, paper):
        """Papers of leastness with the words in another order, and with other words."""
        name, us, vs, weights = paper
        yield (name, us[::-1], vs, tuple(row[::-1] for row in weights))
        yield (name, us, vs[::-1], weights[::-1])

    def test_other_papers(self):
        for text in ("S", "a b", "(a b)* a", "a + b a*"):
            line = "least " + text
            kind, shown_text, (machine, paper) = fields(reply_to(AB, NAMES, line))
            for other in self.other_papers(machine, paper):
                self.assertIs(takes_least(machine, other), True)
                self.right(line, kind, shown_text, (machine, other))
                self.wrong(line, kind, shown_text + " ", (machine, other))
                self.wrong(line, kind, "", (machine, other))
                self.wrong(line, "least", shown_text, (machine, other))
                self.wrong(line, kind, shown_text, (other, machine))
                self.wrong(line, kind, shown_text, (machine, other, other))
                self.wrong(line, kind, shown_text, (machine,))
                self.wrong(line, kind, shown_text, [machine, other])

    def test_papers_that_do_not_show_it(self):
        line = "least a b"
        kind, text, (machine, paper) = fields(reply_to(AB, NAMES, line))
        name, us, vs, weights = paper
        self.assertEqual(machine.size(), 3)
        fewer = show_least(least_form(build(read("0"), AB)))
        self.assertIs(takes_least(machine, fewer), True)
        # The least form has a weight that is not zero at ab: one word is a true paper that no machine of size 0 has it.
        single = ("least", ("ab",), ("",), (vector(1),))
        self.assertIs(takes_least(machine, single), True)
        for other in (fewer, single, (name, us[1:], vs, weights), (name, us, vs, weights[::-1]), (name, us, vs), ("agree",),
                      (name, us, vs, tuple(tuple(q + q for q in row) for row in weights)), (), None, [name, us, vs, weights],
                      (name, list(us), vs, weights), ("lea", us, vs, weights), (name, us, us, weights)):
            self.wrong(line, kind, text, (machine, other))

    def test_least_forms_of_other_series(self):
        for text in TEXTS:
            for other in TEXTS:
                told = fields(reply_to(AB, NAMES, "least " + other))
                same = least_form(build(read(text), AB)) == least_form(build(read(other), AB))
                self.assertIs(is_right(AB, NAMES, ("least " + text, Reply(*told))), same)

    def test_other_machines_of_the_series(self):
        machine = least_form(build(read("a b + 2 b"), AB))
        n = machine.size()
        p = Matrix([[Ratio(int(i == j) + int(j == i + 1)) for j in range(n)] for i in range(n)], n)
        q = Matrix([[Ratio((-1) ** (j - i) if j >= i else 0) for j in range(n)] for i in range(n)], n)
        changed = machine.changed(p, q)
        larger = machine + null(AB) + (letter(AB, "a") - letter(AB, "a"))
        double = Machine(AB, tuple(x + x for x in machine.row), machine.matrices, tuple(x.over(Ratio(2))
                                                                                        for x in machine.column))
        for other in (changed, larger, double):
            paper = show_least(other)
            self.assertIs(takes_least(other, paper), True)
            self.wrong("least a b + 2 b", "machine", machine_text(other), (other, paper))
            self.wrong("least a b + 2 b", "machine", machine_text(machine), (other, paper))
            self.right("least a b + 2 b", "machine", machine_text(machine), (machine, paper))

    def test_machines_over_other_alphabets(self):
        for letters in ("ba", "a", "abc"):
            other = least_form(build(read("a a"), Alphabet(letters)))
            self.wrong("least a a", "machine", machine_text(other), (other, show_least(other)))
        one = constant(Alphabet("a"), Ratio(1))
        self.wrong("least 1", "machine", machine_text(one), (one, show_least(one)))

    def test_values_in_the_place_of_the_machine(self):
        machine = least_form(build(read("1"), AB))
        paper = show_least(machine)
        self.right("least 1", "machine", machine_text(machine), (machine, paper))
        for value in VALUES:
            if value != machine:
                self.wrong("least 1", "machine", machine_text(machine), (value, paper))
                self.wrong("least 1", "machine", machine_text(machine), (machine, value))


class Once(Right):
    LINE = "once 2, 0, 1, 0a1 1b1"

    def test_other_papers(self):
        kind, text, (paper,) = fields(reply_to(AB, {}, self.LINE))
        name, rows, start, steps = paper
        other = (name, tuple(tuple(q + q for q in row) for row in rows), tuple(q.over(Ratio(2)) for q in start), steps)
        counter = counting(read_plain(AB, "2; 0; 1; 0a1 1b1"))
        self.assertIs(takes_agreement(counter, hadamard(counter, counter), other), True)
        self.assertNotEqual(other, paper)
        self.right(self.LINE, "paper", "once", (other,))
        self.wrong(self.LINE, "paper", "", (other,))
        self.wrong(self.LINE, "paper", "twice", (other,))
        self.wrong(self.LINE, "agree", "once", (other,))
        self.wrong(self.LINE, "paper", "once", (other, other))
        self.wrong(self.LINE, "paper", "once", [other])
        self.wrong(self.LINE, "paper", "once", other)
        for changed in changed_papers(paper):
            self.wrong(self.LINE, "paper", "once", (changed,))

    def test_papers_of_other_pairs(self):
        counter = counting(read_plain(AB, "2; 0; 1; 0a1 1b1"))
        square = hadamard(counter, counter)
        for one, two in ((square, counter), (counter, counter), (square, square)):
            self.wrong(self.LINE, "paper", "once", (compare(one, two)[1],))
        self.wrong("once 2, 0 1, 0 1,", "paper", "once", (compare(counter, square)[1],))
        self.wrong("once 2, 0, 1, 0a1 1a1", "paper", "once", (compare(counter, square)[1],))

    def test_words(self):
        line = "once 3, 0, 2, 0a1 0a2 1b2 2b2"
        self.right(line, "twice", "ab", ("ab",))
        for word in ("abb", "a", "", "ba"):
            self.wrong(line, "twice", shown(word), (word,))
            self.wrong(line, "twice", "ab", (word,))
            self.wrong(line, "twice", shown(word), ("ab",))
        self.right("once 2, 0 1, 0 1,", "twice", "-", ("",))
        self.wrong("once 2, 0 1, 0 1,", "twice", "", ("",))


class Write(Right):
    def test_other_expressions_of_the_series(self):
        for line, texts in (
                ("write S", ("(a + 2 b)*", "(2 b + a)*", "(a + b + b)*", "1 + (a + 2 b) (a + 2 b)*", "~(a + 2 b)*",
                             "(a + 2 b)* + 0 a", "(a* 2 b)* a*")),
                ("write a # b", ("a b + b a", "b # a", "a # b", "b a + a b")), ("write 0", ("0", "a & b", "[b:]a", "0 a"))):
            for text in texts:
                self.assertEqual(show(read(text)), text)
                self.right(line, "expression", text, ())
                self.wrong(line, "expression", text, (text,))
                self.wrong(line, "expression", text, [])
                self.wrong(line, "answer", text, ())

    def test_a_line_whose_least_form_is_too_large(self):
        self.right("write a b b", "error", "refused size", ())
        self.right("write a b b", "expression", "a b b", ())
        self.right("write a b b", "expression", "~(b b a)", ())
        self.wrong("write a b b", "expression", "a b", ())

    def test_texts_that_are_not_as_they_are_shown(self):
        for text in ("(a+2 b)*", "(a + 2 b) *", " (a + 2 b)*", "(a + 2 b)* ", "((a + 2 b)*)", "(a + 2b)*", "(a + (2 b))*"):
            self.assertEqual(show(read(text)), "(a + 2 b)*")
            self.wrong("write S", "expression", text, ())

    def test_texts_that_do_not_serve(self):
        for text in ("", "-", "a +", "S", "(S)", "(a + 2 c)*", "(a + 2 b)* + 0 c", "(a + b)*", "a", "1*", "(a + 2 b)* + 1* & 0",
                     "(a + 2 b)* + 0 " + " ".join("a" * 31), "(a + 2 b)* " * 300, "\n", "(a + 2 b)*\n", None, 5, ()):
            self.wrong("write S", "expression", text, ())

    def test_lines_that_cannot_be_built(self):
        for line, text in (("write 1*", "refused star"), ("write X", "refused name"), ("write (", "text 6"),
                           ("write " + "a" * 31, "refused size")):
            self.right(line, "error", text, ())
            for other in ("0", "1", "a", "a" * 31):
                self.wrong(line, "expression", other, ())

    def test_other_series(self):
        for text in TEXTS:
            for other in TEXTS:
                if show(read(other)) == other:
                    same = least_form(build(read(text), AB)) == least_form(build(read(other), AB))
                    self.assertIs(is_right(AB, {}, ("write " + text, Reply("expression", other))), same)


class MainFacts(unittest.TestCase):
    def test_equal_and_different_series(self):
        choices = Choices(181)
        for _ in range(30):
            one, two = choices.of(TEXTS), choices.of(TEXTS)
            line = f"compare {one} ; {two}"
            found = reply_to(AB, {}, line)
            if found.kind == "agree":
                self.assertEqual(reply_to(AB, {}, "least " + one), reply_to(AB, {}, "least " + two))
            else:
                self.assertNotEqual(reply_to(AB, {}, "least " + one), reply_to(AB, {}, "least " + two))
                word, = found.data
                self.assertNotEqual(reply_to(AB, {}, f"weight {one};{shown(word)}"),
                                    reply_to(AB, {}, f"weight {two};{shown(word)}"))

import sys
import unittest

from samples import VALUES, Choices, all_words, chosen, fraction, numbers_machine, ratio, series, vector
from wordweight.checker import takes_agreement, takes_least
from wordweight.deeds import hadamard, product, shuffle, word_machine
from wordweight.differ import compare, difference
from wordweight.forms import kept_words, least_form, rank
from wordweight.linear import Matrix
from wordweight.machine import Machine, constant, letter, null
from wordweight.poly import Poly
from wordweight.ratio import Ratio
from wordweight.table import show_least, table
from wordweight.words import Alphabet

COUNT_OF_A = numbers_machine("ab", (1, 0), (((1, 1), (0, 1)), ((1, 0), (0, 1))), (0, 1))
ONES = numbers_machine("ab", (1,), (((1,),), ((1,),)), (1,))
# The values of the checker's own kinds go into the places of the parts of papers, too.
STRANGE = VALUES + (Poly([1]), "agree", "least", ("agree",), ["agree", (), (), ()], ("least", (), (), ((),)),
                    {"agree": 1}, ("agree", (), (), ((), ()), ()), ("agree", (), ()))


def equal_pairs(seed=91):
    """Pairs of machines of equal series."""
    choices = Choices(seed)
    for letters in ("a", "ab", "ba", "cab"):
        for n in (0, 1, 2, 3):
            f = choices.machine(letters, n)
            yield f, f
            yield f, least_form(f)
            yield f.scaled(Ratio(1, 3)) + f.scaled(Ratio(2, 3)), f
        f, g = choices.machine(letters, 1), choices.machine(letters, 2)
        yield product(f + g, f), product(f, f) + product(g, f)
        yield hadamard(f, g), hadamard(g, f)


def places(value, path=()):
    """The places of all parts of a paper, as paths of indexes."""
    yield path
    if isinstance(value, tuple):
        for at, part in enumerate(value):
            yield from places(part, path + (at,))


def part_of(value, path):
    for at in path:
        value = value[at]
    return value


def put(value, path, part):
    """The value with another part at a place."""
    if path == ():
        return part
    at = path[0]
    return value[:at] + (put(value[at], path[1:], part),) + value[at + 1:]


def of_other_kinds(part):
    """Values in the place of a part that look like it but are of other kinds."""
    if isinstance(part, Ratio):
        return (part.n, str(part), (part,), [part], True, None, Poly([part]), Matrix(((part,),), 1), fraction(part))
    if isinstance(part, tuple):
        return (list(part), None, str(part), (part,), dict(enumerate(part)), Matrix((), 0))
    return (part + "a", part + "s", part.upper(), (part,), [part], None, 0)


class Test(unittest.TestCase):
    def takes(self, one, two, paper):
        self.assertIs(takes_agreement(one, two, paper), True)

    def refuses(self, one, two, paper):
        self.assertIs(takes_agreement(one, two, paper), False)

    def takes_it(self, machine, paper):
        self.assertIs(takes_least(machine, paper), True)

    def refuses_it(self, machine, paper):
        self.assertIs(takes_least(machine, paper), False)


class Agreement(Test):
    def test_papers_of_compare(self):
        for one, two in equal_pairs():
            kind, paper = compare(one, two)
            self.assertEqual(kind, "agree")
            self.takes(one, two, paper)
            self.takes(one + null(one.alphabet), two, paper)
            self.takes(-one, -two, ("agree", tuple(tuple(-q for q in row) for row in paper[1])) + paper[2:])

    def test_papers_written_by_hand(self):
        step = (vector(1),)
        self.takes(ONES, ONES, ("agree", (vector(1, -1),), vector(1), (step, step)))
        self.takes(ONES, ONES, ("agree", (vector(-3, 3),), vector("-1/3"), (step, step)))
        f = numbers_machine("a", (1, 1), (((2, 0), (0, 2)),), (1, 1))
        g = numbers_machine("a", (2,), (((2,),),), (1,))
        self.takes(f, g, ("agree", (vector(1, 1, -2),), vector(1), ((vector(2),),)))
        self.takes(f, g, ("agree", (vector(1, 0, -1), vector(0, 1, -1)), vector(1, 1), ((vector(2, 0), vector(0, 2)),)))

    def test_further_rows(self):
        # Further rows are taken if they are closed, too, also if they are dependent or not needed.
        f = numbers_machine("a", (1, 1), (((2, 0), (0, 2)),), (1, 1))
        g = numbers_machine("a", (2,), (((2,),),), (1,))
        for more, own in ((vector(1, -1, 0), vector(0, 2)), (vector(2, 2, -4), vector(4, 0)),
                          (vector(0, 0, 0), vector(0, 0)), (vector(2, 2, -4), vector(0, 2)),
                          (vector(0, 0, 0), vector(0, 7))):
            self.takes(f, g, ("agree", (vector(1, 1, -2), more), vector(1, 0), ((vector(2, 0), own),)))
        for more, own in ((vector(1, 0, 0), vector(0, 2)), (vector(1, -1, 0), vector(0, 1)),
                          (vector(0, 0, 1), vector(0, 2))):
            self.refuses(f, g, ("agree", (vector(1, 1, -2), more), vector(1, 0), ((vector(2, 0), own),)))
        for one, two in equal_pairs(92):
            _, (_, rows, start, steps) = compare(one, two)
            wide = tuple(tuple(row + vector(0) for row in each) for each in steps)
            if rows:
                more = tuple(each + (each[0],) for each in wide)
                self.takes(one, two, ("agree", rows + (rows[0],), start + vector(0), more))
            none = tuple(each + (vector(*[0] * (len(rows) + 1)),) for each in wide)
            zeros = vector(*[0] * (one.size() + two.size()))
            self.takes(one, two, ("agree", rows + (zeros,), start + vector(5), none))

    def test_one_number_changed(self):
        # The row of the machine and its matrices have no zeros, so that each number of the paper counts.
        f = numbers_machine("ab", (1, 2), (((1, 2), (3, 1)), ((2, 1), (1, 3))), (1, 1))
        for one, two in ((f, f), (COUNT_OF_A, least_form(COUNT_OF_A)), (ONES, ONES)):
            _, paper = compare(one, two)
            changed = 0
            for path in places(paper):
                q = part_of(paper, path)
                if isinstance(q, Ratio):
                    for other in (q + Ratio(1), q - Ratio(1, 10 ** 9), q.over(Ratio(2)), -q):
                        if other != q:
                            changed += 1
                            self.refuses(one, two, put(paper, path, other))
            self.assertGreater(changed, 5)

    def test_parts_left_out_or_added(self):
        for one, two in equal_pairs(93):
            _, paper = compare(one, two)
            for path in places(paper):
                part = part_of(paper, path)
                if isinstance(part, tuple):
                    for at in range(len(part)):
                        self.refuses(one, two, put(paper, path, part[:at] + part[at + 1:]))
                    for more in (Ratio(0), (), vector(0), "", part, ((),)):
                        self.refuses(one, two, put(paper, path, part + (more,)))
                        self.refuses(one, two, put(paper, path, (more,) + part))

    def test_a_row_with_all_its_multiples_left_out(self):
        f = numbers_machine("ab", (1, 2), (((1, 2), (3, 1)), ((2, 1), (1, 3))), (1, 1))
        _, (_, rows, start, steps) = compare(f, f)
        self.assertEqual(len(rows), 2)
        for at in range(2):
            def without(row):
                return row[:at] + row[at + 1:]
            self.refuses(f, f, ("agree", without(rows), without(start),
                                tuple(without(tuple(without(row) for row in each)) for each in steps)))

    def test_other_kinds(self):
        for one, two in equal_pairs(94):
            _, paper = compare(one, two)
            for path in places(paper):
                for other in of_other_kinds(part_of(paper, path)):
                    self.refuses(one, two, put(paper, path, other))

    def test_any_value_in_any_place(self):
        zero = null(Alphabet("ab"))
        for one, two in ((ONES, ONES), (COUNT_OF_A, least_form(COUNT_OF_A)), (zero, zero)):
            _, paper = compare(one, two)
            for path in places(paper):
                for value in STRANGE:
                    changed = put(paper, path, value)
                    if not (isinstance(value, (str, tuple, Ratio)) and changed == paper):
                        self.refuses(one, two, changed)

    def test_every_value(self):
        for one, two in ((ONES, ONES), (COUNT_OF_A, ONES), (null(Alphabet("a")), null(Alphabet("a")))):
            for value in STRANGE:
                self.refuses(one, two, value)

    def test_another_first_word(self):
        for one, two in equal_pairs(95):
            _, paper = compare(one, two)
            for word in ("least", "", "Agree", "agree ", "a", "differ", None, 0, ("agree",), ["agree"]):
                self.refuses(one, two, (word,) + paper[1:])

    def test_unlike_alphabets(self):
        for letters, others in (("ab", "ba"), ("a", "b"), ("ab", "a"), ("a", "ab"), ("abc", "acb")):
            for size in (0, 1, 2):
                one, two = Choices(96).machine(letters, size), Choices(96).machine(others, size)
                for paper in (compare(one, one)[1], compare(two, two)[1], ("agree", (), (), ((),) * len(letters))):
                    self.refuses(one, two, paper)
                for value in STRANGE:
                    self.refuses(one, two, value)

    def test_no_paper_for_machines_that_differ(self):
        papers = [compare(one, two)[1] for one, two in equal_pairs(97)]
        choices = Choices(98)
        tried = 0
        for letters in ("a", "ab", "ba", "cab"):
            for n, m in ((0, 1), (1, 0), (1, 1), (2, 1), (2, 2), (3, 3)):
                one, two = choices.machine(letters, n), choices.machine(letters, m)
                if compare(one, two)[0] == "differ":
                    for paper in papers + self.attempts(one, two):
                        tried += 1
                        self.refuses(one, two, paper)
        self.assertGreater(tried, 500)

    def attempts(self, one, two):
        """Papers for a difference that is not zero, each of them right but for one of the three conditions."""
        gap = difference(one, two)
        n = gap.size()
        units = tuple(tuple(Ratio(1 if i == j else 0) for j in range(n)) for i in range(n))
        all_rows = ("agree", units, gap.row, tuple(m.rows for m in gap.matrices))
        none = ("agree", (), (), ((),) * len(gap.alphabet))
        stay = ("agree", (gap.row,), vector(1), ((vector(1),),) * len(gap.alphabet))
        return [all_rows, none, stay]

    def test_each_condition_alone(self):
        a = Alphabet("a")
        # The first machine gives 1 to each word but the empty one, or to the empty one alone, and so on: in each of
        # the papers one condition only is broken.
        zero = null(a)
        one = numbers_machine("a", (1,), (((1,),),), (1,))
        self.refuses(one, zero, ("agree", (vector(1),), vector(1), ((vector(1),),)))
        self.refuses(one, zero, ("agree", (vector(0),), vector(1), ((vector(1),),)))
        self.refuses(one, zero, ("agree", (), (), ((),)))
        late = word_machine(a, "a")
        self.refuses(late, zero, ("agree", (vector(1, 0),), vector(1), ((vector(0),),)))
        self.refuses(late, zero, ("agree", (vector(1, 0), vector(0, 1)), vector(1, 0), ((vector(0, 1), vector(0, 0)),)))
        b = word_machine(Alphabet("ab"), "b")
        self.refuses(b, null(Alphabet("ab")), ("agree", (vector(1, 0),), vector(1), ((vector(0),), (vector(0),))))
        self.refuses(b, null(Alphabet("ab")), ("agree", (vector(1, 0),), vector(1), ((vector(0),), (vector(1),))))

    def test_if_it_is_taken_the_weights_are_equal(self):
        choices = Choices(99)
        taken = 0
        for _ in range(4000):
            one, two = choices.machine("ab", choices.below(2)), choices.machine("ab", choices.below(2))
            width = one.size() + two.size()
            many = choices.below(2)
            def numbers(length):
                return vector(*[choices.of((0, 1, -1)) for _ in range(length)])
            paper = ("agree", tuple(numbers(width) for _ in range(many)), numbers(many),
                     tuple(tuple(numbers(many) for _ in range(many)) for _ in "ab"))
            if takes_agreement(one, two, paper):
                taken += 1
                f, g = series(one), series(two)
                self.assertTrue(all(f(word) == g(word) for word in all_words("ab", 4)))
        self.assertGreater(taken, 20)


class Least(Test):
    def samples(self, seed):
        choices = Choices(seed)
        for letters in ("a", "ab", "ba", "cab"):
            for size in (0, 1, 2, 3):
                for _ in range(2):
                    yield choices.machine(letters, size)
            f = choices.machine(letters, 1)
            yield shuffle(f + f, f)

    def test_papers_of_show_least(self):
        for machine in self.samples(101):
            paper = show_least(machine)
            self.takes_it(machine, paper)
            self.takes_it(least_form(machine), paper)
            self.takes_it(machine + machine.scaled(Ratio(0)), paper)

    def test_papers_written_by_hand(self):
        # Fewer words than there are kept ones, in any order.
        for paper in (("least", (), (), ()), ("least", ("a",), ("",), (vector(1),)),
                      ("least", ("ba",), ("ab",), (vector("1/2"),)),
                      ("least", ("", "a"), ("a", ""), (vector(1, 0), vector(-2, 1))),
                      ("least", ("a", ""), ("", "a"), (vector(1, -2), vector(0, 1)))):
            self.takes_it(COUNT_OF_A, paper)
        for paper in (("least", ("",), ("",), (vector(1),)), ("least", ("a",), ("",), (vector(2),)),
                      ("least", ("", "b"), ("", "a"), (vector(1, 0), vector(0, 1))),
                      ("least", ("", "a"), ("", "a"), (vector(1, 0), vector(0, 1))),
                      ("least", ("", "a"), ("", "a"), (vector(1, 0), vector(-2, 1)))):
            self.refuses_it(COUNT_OF_A, paper)

    def test_weights_stand_on_the_left_and_words_on_their_sides(self):
        m = word_machine(Alphabet("ab"), "ab").scaled(Ratio(2)) + word_machine(Alphabet("ab"), "aab")
        _, us, vs, weights = show_least(m)
        self.takes_it(m, ("least", us, vs, weights))
        self.refuses_it(m, ("least", vs, us, weights))
        self.refuses_it(m, ("least", us, vs, tuple(zip(*weights))))

    def test_changed_ones(self):
        for machine in self.samples(102):
            paper = show_least(machine)
            for path in places(paper):
                part = part_of(paper, path)
                if isinstance(part, Ratio):
                    for other in (part + Ratio(1), part - Ratio(1, 10 ** 9), -part, part.over(Ratio(2))):
                        if other != part:
                            self.refuses_it(machine, put(paper, path, other))
                elif isinstance(part, tuple):
                    for at in range(len(part)):
                        self.refuses_it(machine, put(paper, path, part[:at] + part[at + 1:]))
                    for more in (Ratio(0), (), vector(0), "", part, ("",)):
                        self.refuses_it(machine, put(paper, path, part + (more,)))
                for other in of_other_kinds(part):
                    if not (isinstance(part, str) and len(path) == 2 and isinstance(other, str)):
                        self.refuses_it(machine, put(paper, path, other))

    def test_unlike_lengths(self):
        m = constant(Alphabet("ab"), ratio("1/2"))
        row = vector(2)
        self.takes_it(m, ("least", ("",), ("",), (row,)))
        for us in ((), ("",), ("", "")):
            for vs in ((), ("",), ("", "")):
                for weights in ((), (row,), (row, row), ((),), (vector(2, 0),), (vector(2, 0), vector(0, 2)), ((), ()),
                                (vector(2, 0), row)):
                    if (us, vs, weights) not in (((), (), ()), (("",), ("",), (row,))):
                        self.refuses_it(m, ("least", us, vs, weights))

    def test_words_not_over_the_alphabet(self):
        for letters in ("ab", "ba"):
            m = Machine(Alphabet(letters), vector(1), [Matrix((vector(1),), 1)] * 2, vector(1))
            self.takes_it(m, ("least", ("ab",), ("b",), (vector(1),)))
            for value in ("c", "ac", "A", " ", "a b", "-", "\n", None, 0, True, (), ("a",), ["a"], Ratio(1),
                          Alphabet("a")):
                self.refuses_it(m, ("least", (value,), ("b",), (vector(1),)))
                self.refuses_it(m, ("least", ("b",), (value,), (vector(1),)))

    def test_any_value_in_any_place(self):
        for machine in (COUNT_OF_A, ONES, null(Alphabet("ab"))):
            paper = show_least(machine)
            for path in places(paper):
                for value in STRANGE:
                    changed = put(paper, path, value)
                    if not (isinstance(value, (str, tuple, Ratio)) and changed == paper):
                        words = value if isinstance(value, tuple) else (value,)
                        if not (path != () and path[0] in (1, 2) and all(word in machine.alphabet for word in words)):
                            self.refuses_it(machine, changed)
                        self.assertIn(takes_least(machine, changed), (True, False))

    def test_every_value(self):
        for machine in (ONES, COUNT_OF_A, null(Alphabet("a"))):
            for value in STRANGE:
                self.refuses_it(machine, value)

    def test_no_machine_is_smaller_than_a_paper_that_is_taken(self):
        choices = Choices(103)
        taken = [0, 0, 0, 0]
        for _ in range(600):
            machine = choices.machine("ab", choices.below(4))
            many = choices.below(4)
            words = all_words("ab", 2)
            us, vs = (tuple(choices.of(words) for _ in range(many)) for _ in range(2))
            columns = Matrix(table(machine, us, vs), many).transposed()
            weights = columns.duals() or tuple(vector(*[choices.of((0, 1, -1)) for _ in us]) for _ in us)
            if takes_least(machine, ("least", us, vs, weights)):
                taken[many] += 1
                self.assertLessEqual(many, rank(machine))
                self.assertEqual(len(chosen(words, self.hankel(machine, words))[0]), rank(machine))
        self.assertGreater(min(taken), 5)

    def hankel(self, machine, words):
        weight = series(machine)
        return [[weight(u + v) for v in words] for u in words]

    def test_more_words_than_the_rank_are_never_taken(self):
        for machine in self.samples(104):
            _, us, vs, weights = show_least(machine)
            zeros = (Ratio(0),)
            for more in all_words(machine.alphabet.letters, 1):
                for item in (Ratio(0), Ratio(1), Ratio(1, 2)):
                    rows = tuple(row + zeros for row in weights) + (zeros * len(us) + (item,),)
                    self.refuses_it(machine, ("least", us + (more,), vs + (more,), rows))


class NoSearch(Test):
    def called(self, call, *arguments):
        """The names of the functions that a call runs through, with their modules."""
        found = set()

        def note(frame, event, _):
            if event == "call":
                found.add((frame.f_globals.get("__name__"), frame.f_code.co_name))
        sys.setprofile(note)
        try:
            call(*arguments)
        finally:
            sys.setprofile(None)
        return found

    def check_calls(self, found):
        self.assertGreater(len(found), 3)
        for module, name in found:
            self.assertNotEqual(module, "wordweight.forms", name)
            self.assertNotEqual(module, "wordweight.spans", name)
            self.assertNotIn(name, ("agree", "show_least", "solve", "duals", "reduced", "kernel", "_eliminate"))
            self.assertFalse(name == "compare" and module == "wordweight.differ")

    def test_what_is_called(self):
        f = numbers_machine("ab", (1, 2), (((1, 2), (3, 1)), ((2, 1), (1, 3))), (1, 1))
        _, paper = compare(f, f)
        self.check_calls(self.called(takes_agreement, f, f, paper))
        self.check_calls(self.called(takes_agreement, f, f + f, paper))
        paper = show_least(f)
        self.check_calls(self.called(takes_least, f, paper))
        self.check_calls(self.called(takes_least, f + f, paper))

    def test_that_this_would_be_noticed(self):
        found = self.called(kept_words, COUNT_OF_A)
        self.assertIn(("wordweight.forms", "kept_words"), found)
        self.assertIn(("wordweight.differ", "compare"), self.called(compare, ONES, ONES))

    def test_arguments_stay_and_results_are_equal(self):
        one = Choices(105).machine("ab", 2)
        for _ in range(2):
            self.takes(one, one, compare(one, one)[1])
            self.takes_it(one, show_least(one))
            self.assertEqual(one, Choices(105).machine("ab", 2))


class Examples(Test):
    def test_two_machines_of_size_zero(self):
        ab = Alphabet("ab")
        self.takes(null(ab), null(ab), ("agree", (), (), ((), ())))
        self.refuses(null(ab), null(ab), ("agree", (), (), ((),)))
        self.refuses(null(ab), null(ab), ("agree", (), (), ()))

    def test_two_machines_of_size_one(self):
        step = (vector(1),)
        self.takes(ONES, ONES, ("agree", (vector(1, -1),), vector(1), (step, step)))
        self.refuses(ONES, ONES, ("agree", ((1, -1),), (1,), (((1,),), ((1,),))))
        self.refuses(ONES, ONES, ("agree", (vector(1, -1),), vector(1), (vector(1), vector(1))))

    def test_of_letters(self):
        ab = Alphabet("ab")
        _, paper = compare(letter(ab, "a"), letter(ab, "a"))
        self.takes(letter(ab, "a"), letter(ab, "a"), paper)
        self.refuses(letter(ab, "a"), letter(ab, "b"), paper)

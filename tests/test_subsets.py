import unittest
from itertools import product as pairs_of

from samples import VALUES, Choices, all_words, runs_of, weight_of
from wordweight.checker import takes_agreement
from wordweight.deeds import hadamard
from wordweight.errors import Malformed
from wordweight.linear import Matrix
from wordweight.machine import Machine
from wordweight.plain import Plain
from wordweight.ratio import Ratio
from wordweight.subsets import (alike, characteristic, counting, least_machine, shows_alike, subset_machine,
                                unambiguous)
from wordweight.words import Alphabet

AB = Alphabet("ab")
EXAMPLE = Plain(AB, 2, starts=(0,), ends=(1,), moves=((0, "a", 1), (1, "b", 1)))
# The words whose third letter from the end is an a.
THIRD = Plain(AB, 4, ends=(3,), moves=[(0, "a", 0), (0, "b", 0), (0, "a", 1)] + [
    (i, letter, i + 1) for i in (1, 2) for letter in "ab"])


def machines(seed=151):
    """Plain machines of small sizes."""
    choices = Choices(seed)
    for letters in ("a", "ab", "ba", "cab"):
        alphabet = Alphabet(letters)
        yield Plain(alphabet, 0)
        yield Plain(alphabet, 1, ends=(0,))
        yield Plain(alphabet, 2, starts=(), ends=(0, 1), moves=[(0, letters[0], 1)])
        for size in (1, 2, 2, 3, 3, 4):
            yield choices.plain(letters, size)
            yield choices.determined(letters, size)
    yield EXAMPLE
    yield THIRD


def determined_pairs(seed=152):
    """Pairs of determined machines over one alphabet, many of which accept the same words."""
    choices = Choices(seed)
    for letters in ("a", "ab", "ba", "cab"):
        for size in (1, 2, 2, 3, 4):
            a, b = choices.determined(letters, size), choices.determined(letters, 1 + choices.below(4))
            yield a, b
            yield a, least_machine(a)
            yield least_machine(a), a
            yield a, a
            yield b, a.joined(b).common(b)
            yield a, least_machine(choices.plain(letters, size))


def all_accepted(a, longest):
    return [word for word in all_words(a.alphabet.letters, longest) if runs_of(a, word)]


def sets_of(a):
    """The sets of states in the order of the least words that lead to them, and the least words."""
    def after(states, letter):
        return frozenset(j for i, x, j in a.moves if i in states and x == letter)
    found = {frozenset(a.starts): ""}
    level = list(found)
    while level:
        fresh = []
        for states in level:
            for letter in a.alphabet.letters:
                then = after(states, letter)
                if then not in found:
                    found[then] = found[states] + letter
                    fresh.append(then)
        level = fresh
    return found, after


class SubsetMachines(unittest.TestCase):
    def test_states_and_moves(self):
        for a in machines():
            found = subset_machine(a)
            self.assertIsInstance(found, Plain)
            sets, after = sets_of(a)
            order = sorted(sets, key=lambda states: (len(sets[states]), [a.alphabet.letters.index(x)
                                                                         for x in sets[states]]))
            self.assertEqual(order, list(sets))
            self.assertEqual(found.alphabet, a.alphabet)
            self.assertEqual(found.states, len(order))
            self.assertEqual(found.starts, (0,))
            self.assertEqual(found.ends, tuple(at for at, states in enumerate(order) if states & set(a.ends)))
            self.assertEqual(found.moves, tuple((at, letter, order.index(after(states, letter)))
                                                for at, states in enumerate(order) for letter in a.alphabet.letters))

    def test_it_is_determined_and_accepts_the_same(self):
        for a in machines():
            found = subset_machine(a)
            self.assertTrue(found.is_determined())
            self.assertLessEqual(found.states, 2 ** a.states)
            self.assertEqual(all_accepted(found, 4), all_accepted(a, 4))

    def test_the_empty_set(self):
        self.assertEqual(str(subset_machine(Plain(AB, 0))), "1; 0; ; 0a0 0b0")
        self.assertEqual(str(subset_machine(Plain(AB, 2, starts=(), ends=(0,)))), "1; 0; ; 0a0 0b0")
        self.assertEqual(str(subset_machine(EXAMPLE)), "3; 0; 1; 0a1 0b2 1a2 1b1 2a2 2b2")
        whole = Plain(AB, 2, starts=(0, 1), ends=(0,), moves=((0, "a", 0), (1, "b", 1), (0, "b", 1), (1, "a", 1)))
        self.assertEqual(str(subset_machine(whole)), "2; 0; 0; 0a0 0b1 1a1 1b1")

    def test_the_numbering(self):
        a = Plain(Alphabet("ba"), 3, ends=(2,), moves=((0, "a", 1), (0, "b", 2), (1, "b", 0), (2, "a", 2)))
        self.assertEqual(str(subset_machine(a)), "4; 0; 1; 0b1 0a2 1b3 1a1 2b0 2a3 3b3 3a3")
        self.assertEqual(str(subset_machine(THIRD)),
                         "8; 0; 4 5 6 7; 0a1 0b0 1a2 1b3 2a4 2b5 3a6 3b7 4a4 4b5 5a6 5b7 6a2 6b3 7a1 7b0")

    def test_many_sets(self):
        n = 10
        a = Plain(AB, n + 1, ends=(n,), moves=[(0, "a", 0), (0, "b", 0), (0, "a", 1)] + [
            (i, letter, i + 1) for i in range(1, n) for letter in "ab"])
        self.assertEqual(len(subset_machine(a)), 2 ** n)
        self.assertEqual(len(least_machine(a)), 2 ** n)


class LeastMachines(unittest.TestCase):
    def test_by_residuals(self):
        for a in machines():
            # Words as long as the subset machine has states tell all residuals of short words apart.
            size = len(subset_machine(a))
            letters = a.alphabet.letters
            if size * len(letters) <= 16:
                ends = all_words(letters, min(size - 1, 6 if len(letters) > 1 else 16))
                accepted = {}

                def accepts(word):
                    if word not in accepted:
                        accepted[word] = bool(runs_of(a, word))
                    return accepted[word]

                def residual(word):
                    return tuple(accepts(word + end) for end in ends)
                known = {residual(""): ""}
                waiting = [""]
                while waiting:
                    word = waiting.pop(0)
                    for letter in letters:
                        if residual(word + letter) not in known:
                            known[residual(word + letter)] = word + letter
                            waiting.append(word + letter)
                order = list(known)
                found = least_machine(a)
                self.assertEqual(found, Plain(
                    a.alphabet, len(order), ends=[at for at, each in enumerate(order) if accepts(known[each])],
                    moves=[(at, letter, order.index(residual(known[each] + letter)))
                           for at, each in enumerate(order) for letter in letters]))

    def test_it_is_determined_and_accepts_the_same(self):
        for a in machines():
            found = least_machine(a)
            self.assertIsInstance(found, Plain)
            self.assertTrue(found.is_determined())
            self.assertEqual(found.starts, (0,))
            self.assertLessEqual(len(found), len(subset_machine(a)))
            self.assertEqual(all_accepted(found, 4), all_accepted(a, 4))

    def test_equal_for_equal_languages(self):
        for a in machines():
            least = least_machine(a)
            n = a.states
            order = list(range(n))[::-1]
            renamed = Plain(a.alphabet, n, starts=[order[i] for i in a.starts], ends=[order[i] for i in a.ends],
                            moves=[(order[i], letter, order[j]) for i, letter, j in a.moves])
            twice = Plain(a.alphabet, 2 * n, starts=a.starts + tuple(n + i for i in a.starts),
                          ends=a.ends + tuple(n + i for i in a.ends),
                          moves=a.moves + tuple((n + i, letter, j) for i, letter, j in a.moves))
            for b in (subset_machine(a), least, renamed, twice, a.turned().turned(), a.joined(a),
                      least_machine(a.turned()).turned(), subset_machine(renamed), a.without(a.complement())):
                self.assertEqual(least_machine(b), least)

    def test_different_for_different_languages(self):
        every = [least_machine(a) for a in machines() if a.alphabet == AB]
        for a in every:
            for b in every:
                # A word that tells two determined machines apart is no longer than both have states together.
                same = all_accepted(a, min(len(a) + len(b), 7)) == all_accepted(b, min(len(a) + len(b), 7))
                self.assertIs(a == b, same)

    def test_as_they_stand(self):
        self.assertEqual(str(least_machine(EXAMPLE)), "3; 0; 1; 0a1 0b2 1a2 1b1 2a2 2b2")
        self.assertEqual(str(least_machine(Plain(AB, 0))), "1; 0; ; 0a0 0b0")
        even = Plain(AB, 4, starts=(3,), ends=(3, 1), moves=[(i, "a", (i + 1) % 4) for i in range(4)] + [
            (i, "b", i) for i in range(4)])
        self.assertEqual(str(least_machine(even)), "2; 0; 0; 0a1 0b0 1a0 1b1")

    def test_long_chains(self):
        chain = Plain(AB, 200, ends=(199,), moves=[(i, "a", i + 1) for i in range(199)])
        self.assertEqual(len(least_machine(chain)), 201)
        cycle = Plain(Alphabet("a"), 240, ends=range(0, 240, 6), moves=[(i, "a", (i + 1) % 240) for i in range(240)])
        self.assertEqual(len(least_machine(cycle)), 6)


class Counting(unittest.TestCase):
    def test_row_matrices_and_column(self):
        for a in machines():
            found = counting(a)
            self.assertIsInstance(found, Machine)
            bits = (Ratio(0), Ratio(1))
            self.assertEqual(found.alphabet, a.alphabet)
            self.assertEqual(found.size(), a.states)
            self.assertEqual(found.row, tuple(bits[i in a.starts] for i in range(a.states)))
            self.assertEqual(found.column, tuple(bits[i in a.ends] for i in range(a.states)))
            for letter, each in zip(a.alphabet.letters, found.matrices):
                self.assertEqual(each, Matrix([[bits[(i, letter, j) in a.moves] for j in range(a.states)]
                                               for i in range(a.states)], a.states))

    def test_weights(self):
        for a in machines():
            for word in all_words(a.alphabet.letters, 4 if len(a.alphabet) < 3 else 3):
                self.assertEqual(weight_of(counting(a), word), len(runs_of(a, word)))

    def test_characteristic(self):
        for a in machines():
            found = characteristic(a)
            self.assertEqual(found, counting(least_machine(a)))
            for word in all_words(a.alphabet.letters, 4 if len(a.alphabet) < 3 else 3):
                self.assertEqual(weight_of(found, word), 1 if runs_of(a, word) else 0)

    def test_characteristic_depends_on_the_language_alone(self):
        for a in machines():
            self.assertEqual(characteristic(subset_machine(a)), characteristic(a))
            self.assertEqual(characteristic(a.joined(a)), characteristic(a))


def walk(a, word):
    """The state of a determined machine after a word."""
    state = a.starts[0]
    for letter in word:
        state, = [j for i, x, j in a.moves if (i, x) == (state, letter)]
    return state


def told_alike(a, b):
    """What alike has to return, from all words that are long enough to lead to every pair."""
    found = {}
    for word in all_words(a.alphabet.letters, a.states * b.states if len(a.alphabet) < 2 else 7):
        if (word in a) != (word in b):
            return ("word", word)
        found[(walk(a, word), walk(b, word))] = True
    return ("table", tuple(sorted(found)))


class Alike(unittest.TestCase):
    def test_table_or_word(self):
        kinds = []
        for a, b in determined_pairs():
            if a.states * b.states <= 7 or len(a.alphabet) == 1:
                found = alike(a, b)
                kinds.append(found[0])
                self.assertEqual(found, told_alike(a, b))
                self.assertIs(type(found), tuple)
                self.assertIs(type(found[1]), str if found[0] == "word" else tuple)
        self.assertGreater(kinds.count("table"), 10)
        self.assertGreater(kinds.count("word"), 10)

    def test_larger_ones(self):
        for a, b in determined_pairs(153):
            kind, found = alike(a, b)
            if kind == "word":
                self.assertTrue((found in a) != (found in b))
                for word in all_words(a.alphabet.letters, min(len(found), 6)):
                    if (word in a) != (word in b):
                        self.assertEqual(word, found)
                        break
            else:
                self.assertIs(shows_alike(a, b, found), True)
                self.assertEqual(least_machine(a), least_machine(b))

    def test_as_they_stand(self):
        a = subset_machine(EXAMPLE)
        b = Plain(AB, 4, starts=(3,), ends=(1, 2), moves=(
            (3, "a", 1), (3, "b", 0), (1, "a", 0), (1, "b", 2), (2, "a", 0), (2, "b", 1), (0, "a", 0), (0, "b", 0)))
        self.assertEqual(alike(a, b), ("table", ((0, 3), (1, 1), (1, 2), (2, 0))))
        self.assertEqual(alike(b, a), ("table", ((0, 2), (1, 1), (2, 1), (3, 0))))
        self.assertEqual(alike(a, a.complement()), ("word", ""))
        c = Plain(AB, 4, starts=(3,), ends=(1,), moves=b.moves)
        self.assertEqual(alike(a, c), ("word", "ab"))
        d = Plain(Alphabet("ba"), 2, ends=(1,), moves=((0, "a", 1), (0, "b", 1), (1, "a", 1), (1, "b", 1)))
        e = Plain(Alphabet("ba"), 1, moves=((0, "a", 0), (0, "b", 0)))
        self.assertEqual(alike(d, e), ("word", "b"))

    def test_words_of_many_letters(self):
        a = least_machine(Plain(AB, 31, ends=(30,), moves=[(i, "ab"[i % 2], i + 1) for i in range(30)]))
        b = least_machine(Plain(AB, 0))
        self.assertEqual(alike(a, b), ("word", "ab" * 15))

    def test_malformed(self):
        a = least_machine(EXAMPLE)
        other = least_machine(Plain(Alphabet("ba"), 1))
        for one, two in ((a, EXAMPLE), (EXAMPLE, a), (EXAMPLE, EXAMPLE), (a, other), (other, a), (a, THIRD),
                         (Plain(AB, 0), a), (a, Plain(AB, 0)), (a, least_machine(Plain(Alphabet("a"), 1)))):
            with self.assertRaises(Malformed):
                alike(one, two)
            for value in VALUES + (((0, 0),), ((0, 0), (1, 1))):
                with self.assertRaises(Malformed):
                    shows_alike(one, two, value)


class ShowsAlike(unittest.TestCase):
    def valid(self, a, b, table):
        """Whether a table of pairs of states shows it, by the words of the document."""
        return ((a.starts[0], b.starts[0]) in table and all((i in a.ends) == (j in b.ends) for i, j in table) and all(
            (then_i, then_j) in table for i, j in table for k, x, then_i in a.moves if k == i
            for m, y, then_j in b.moves if (m, y) == (j, x)))

    def test_every_table_of_small_machines(self):
        shown = []
        for a, b in determined_pairs(154):
            every = list(pairs_of(range(a.states), range(b.states)))
            if len(every) <= 6:
                for bits in range(2 ** len(every)):
                    table = tuple(pair for at, pair in enumerate(every) if bits >> at & 1)
                    self.assertIs(shows_alike(a, b, table), self.valid(a, b, table))
                    shown.append(shows_alike(a, b, table) and alike(a, b) != ("table", table))
        # Some tables have more pairs than words lead to.
        self.assertTrue(any(shown))

    def test_changed_tables(self):
        changed = 0
        for a, b in determined_pairs(155):
            kind, table = alike(a, b)
            if kind == "table":
                self.assertIs(shows_alike(a, b, table), True)
                self.assertIs(shows_alike(a, b, list(table)), False)
                self.assertIs(shows_alike(a, b, table + table[-1:]), False)
                self.assertIs(shows_alike(a, b, table[:1] + table), False)
                self.assertIs(shows_alike(a, b, table + ((a.states, 0),)), False)
                self.assertIs(shows_alike(a, b, table + ((a.states - 1, b.states),)), False)
                self.assertIs(shows_alike(a, b, ((-1, 0),) + table), False)
                self.assertIs(shows_alike(a, b, ((0, -1),) + table), False)
                self.assertIs(shows_alike(a, b, (table,)), False)
                if len(table) > 1:
                    self.assertIs(shows_alike(a, b, table[::-1]), False)
                    self.assertIs(shows_alike(a, b, table[1:2] + table[:1] + table[2:]), False)
                for at, pair in enumerate(table):
                    # Each pair of the table is led to by a word, so none can be missing.
                    self.assertIs(shows_alike(a, b, table[:at] + table[at + 1:]), False)
                    i, j = pair
                    for other in ([i, j], (i,), (i, j, 0), (i, str(j)), (str(i), j), (i, None), ((i, j),), i, None,
                                  "", "01", (Ratio(i), Ratio(j)), (i, [j]), (bool(i), j), (i, bool(j)), {i: j}, a):
                        changed += 1
                        self.assertIs(shows_alike(a, b, table[:at] + (other,) + table[at + 1:]), False)
        self.assertGreater(changed, 500)

    def test_true_is_no_state(self):
        a = Plain(AB, 2, starts=(1,), ends=(1,), moves=((0, "a", 1), (0, "b", 1), (1, "a", 1), (1, "b", 1)))
        self.assertIs(shows_alike(a, a, ((1, 1),)), True)
        for pair in ((True, 1), (1, True), (True, True)):
            self.assertIs(shows_alike(a, a, (pair,)), False)

    def test_values_of_every_kind(self):
        for a, b in determined_pairs(156):
            for value in VALUES + (("table", ()), ("table", ((0, 0),)), [(0, 0)], {(0, 0): 1}, (("a", "b"),)):
                if isinstance(value, tuple) and value and all(type(each) is tuple for each in value):
                    continue
                self.assertIs(shows_alike(a, b, value), False)
        self.assertIs(shows_alike(a, b, ()), False)


class Unambiguous(unittest.TestCase):
    def check(self, a, longest):
        found = unambiguous(a)
        self.assertIs(type(found), tuple)
        kind, what = found
        told = next((word for word in all_words(a.alphabet.letters, longest) if len(runs_of(a, word)) > 1), None)
        if told is None:
            if kind == "word":
                self.assertGreater(len(what), longest)
                self.assertGreater(a.runs(what), 1)
            else:
                self.assertEqual(kind, "paper")
                counter = counting(a)
                self.assertIs(takes_agreement(counter, hadamard(counter, counter), what), True)
        else:
            self.assertEqual(found, ("word", told))
        return kind

    def test_paper_or_word(self):
        choices = Choices(157)
        kinds = [self.check(a, 5 if len(a.alphabet) < 3 else 4) for a in machines()]
        for letters in ("a", "ab", "ba"):
            for size in (2, 3, 4) * 4:
                a = choices.plain(letters, size)
                # Ends to which few words lead make words of two runs long.
                kinds.append(self.check(Plain(a.alphabet, size, starts=(0,), ends=(size - 1,), moves=a.moves), 6))
        self.assertGreater(kinds.count("paper"), 20)
        self.assertGreater(kinds.count("word"), 15)

    def test_determined_machines(self):
        for a, _ in determined_pairs(158):
            if a.states < 4:
                self.assertEqual(unambiguous(a)[0], "paper")
                self.assertEqual(unambiguous(least_machine(a))[0], "paper")

    def test_as_they_stand(self):
        self.assertEqual(unambiguous(Plain(AB, 0)), ("paper", ("agree", (), (), ((), ()))))
        self.assertEqual(unambiguous(Plain(AB, 2, starts=(0, 1), ends=(0, 1))), ("word", ""))
        twice = Plain(AB, 4, ends=(3,), moves=((0, "a", 1), (0, "a", 2), (1, "b", 3), (2, "b", 3), (3, "a", 3)))
        self.assertEqual(unambiguous(twice), ("word", "ab"))
        self.assertEqual(unambiguous(Plain(AB, 4, starts=(0,), ends=(1,), moves=twice.moves))[0], "paper")
        self.assertEqual(unambiguous(THIRD)[0], "paper")
        self.assertEqual(unambiguous(Plain(AB, 4, ends=(3, 2), moves=THIRD.moves)), ("word", "aaa"))


class Arguments(unittest.TestCase):
    def test_they_stay(self):
        for a in machines():
            before = (a.alphabet, a.states, a.starts, a.ends, a.moves)
            least = least_machine(a)
            for call in (subset_machine, least_machine, counting, characteristic, unambiguous):
                self.assertEqual(call(a), call(a))
            self.assertEqual(alike(least, least), alike(least, least))
            self.assertEqual((a.alphabet, a.states, a.starts, a.ends, a.moves), before)

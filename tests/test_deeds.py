import unittest
from fractions import Fraction
from itertools import combinations

from samples import Choices, all_words, fraction, numbers_machine, series, weight_of
from wordweight.deeds import (hadamard, is_proper, left_quotient, power, product, right_quotient, shuffle, star,
                              substitute, word_machine)
from wordweight.errors import Malformed, Refused
from wordweight.machine import Machine, constant, letter, null
from wordweight.ratio import Ratio
from wordweight.words import Alphabet

LETTERS = ("a", "ba", "cab")
UNLIKE = (("ab", "ba"), ("a", "b"), ("ab", "a"), ("a", "ab"), ("abc", "acb"), ("abcd", "abce"))


def pairs(sizes=(0, 1, 2, 3), seed=1):
    """Machines of all pairs of sizes, over several alphabets."""
    choices = Choices(seed)
    for letters in LETTERS:
        for n in sizes:
            for m in sizes:
                yield choices.machine(letters, n), choices.machine(letters, m)


def proper(machine):
    """The machine with one more state that takes the weight of the empty word away."""
    return machine - constant(machine.alphabet, machine.weight(""))


def shortest(machine):
    """Short words: few letters allow longer ones."""
    return all_words(machine.alphabet.letters, {1: 6, 2: 4, 3: 3, 4: 2}[len(machine.alphabet)])


def cauchy(f, g, word):
    return sum(f(word[:at]) * g(word[at:]) for at in range(len(word) + 1))


def divided(f, word):
    """The sum over the divisions of the word."""
    if word == "":
        return Fraction(1)
    return sum(f(word[:at]) * divided(f, word[at:]) for at in range(1, len(word) + 1))


def shuffled(f, g, word):
    """The sum over the sets of positions."""
    found = Fraction(0)
    for many in range(len(word) + 1):
        for chosen in combinations(range(len(word)), many):
            u = "".join(a for at, a in enumerate(word) if at in chosen)
            v = "".join(a for at, a in enumerate(word) if at not in chosen)
            found += f(u) * g(v)
    return found


class Test(unittest.TestCase):
    def check(self, machine, alphabet, size, weight, words=None):
        self.assertIsInstance(machine, Machine)
        self.assertEqual(machine.alphabet, alphabet)
        self.assertEqual(machine.size(), size)
        for matrix in machine.matrices:
            self.assertEqual([len(row) for row in matrix.rows], [size] * size)
        found = series(machine)
        for word in shortest(machine) if words is None else words:
            self.assertEqual(found(word), weight(word), word)

    def refuses(self, reason, call, *arguments):
        with self.assertRaises(Refused) as caught:
            call(*arguments)
        self.assertEqual(caught.exception.reason, reason)

    def weighs(self, machine, weights):
        """The weights of the words that are named, and 0 for all others up to length 4."""
        found = series(machine)
        for word in all_words(machine.alphabet.letters, 4):
            self.assertEqual(found(word), Fraction(weights.get(word, 0)), word)


class Product(Test):
    def test_size_and_weights(self):
        for f, g in pairs():
            u, v = series(f), series(g)
            self.check(product(f, g), f.alphabet, f.size() + g.size(), lambda w: cauchy(u, v, w))

    def test_both_cuts_at_the_ends_count(self):
        ab = Alphabet("ab")
        f = constant(ab, Ratio(2)) + letter(ab, "a")
        g = constant(ab, Ratio(5)) + letter(ab, "b").scaled(Ratio(3))
        self.weighs(product(f, g), {"": 10, "a": 5, "b": 6, "ab": 3})
        self.weighs(product(g, f), {"": 10, "a": 5, "b": 6, "ba": 3})

    def test_unlike_alphabets(self):
        for one, other in UNLIKE:
            for size in (0, 1, 2):
                with self.assertRaises(Malformed):
                    product(Choices(1).machine(one, size), Choices(2).machine(other, size))


class Power(Test):
    def test_size_and_weights(self):
        choices = Choices(2)
        for letters in ("a", "ba"):
            for size in (0, 1, 2):
                f = choices.machine(letters, size)
                weight = series(f)
                of_power = [lambda w: Fraction(w == "")]
                for k in range(1, 7):
                    of_power.append(lambda w, rest=of_power[-1]: cauchy(weight, rest, w))
                words = all_words(letters, 5 if letters == "a" else 3)
                for k in range(1, 7):
                    self.check(power(f, k), f.alphabet, k * size, of_power[k], words)

    def test_none_is_the_constant_one(self):
        for letters in LETTERS:
            for size in (0, 1, 3):
                self.assertEqual(power(Choices(3).machine(letters, size), 0),
                                 constant(Alphabet(letters), Ratio(1)))

    def test_words_of_several_letters(self):
        ab = Alphabet("ab")
        f = letter(ab, "a") + letter(ab, "b").scaled(Ratio(2))
        self.weighs(power(f, 2), {"aa": 1, "ab": 2, "ba": 2, "bb": 4})
        self.assertEqual(weight_of(power(f, 6), "abbaab"), 8)
        self.assertEqual(power(f, 6).size(), 24)
        self.assertEqual(weight_of(power(f, 8), "abbaabaa"), 8)


class Star(Test):
    def test_size_and_weights(self):
        choices = Choices(4)
        for letters in LETTERS:
            for size in (0, 1, 2, 3):
                f = proper(choices.machine(letters, size))
                weight = series(f)
                self.check(star(f), f.alphabet, size + 2, lambda w: divided(weight, w))

    def test_of_machines_that_are_proper_as_they_are(self):
        choices = Choices(5)
        found = 0
        for letters in ("a", "ab"):
            for size in (0, 1, 2, 3) * 12:
                f = choices.machine(letters, size)
                if weight_of(f, "") == 0:
                    found += size > 0
                    weight = series(f)
                    self.check(star(f), f.alphabet, size + 1, lambda w: divided(weight, w))
        self.assertGreater(found, 10)

    def test_is_proper(self):
        choices = Choices(6)
        answers = set()
        for letters in LETTERS:
            for size in (0, 1, 2, 3) * 6:
                f = choices.machine(letters, size)
                answers.add(is_proper(f))
                self.assertIs(is_proper(f), weight_of(f, "") == 0)
                self.assertIs(is_proper(proper(f)), True)
        self.assertEqual(answers, {True, False})

    def test_refused(self):
        choices = Choices(7)
        for letters in LETTERS:
            for q in (Ratio(1), Ratio(-1), Ratio(1, 10 ** 9)):
                self.refuses("star", star, constant(Alphabet(letters), q))
                for size in (0, 1, 2):
                    self.refuses("star", star, proper(choices.machine(letters, size)) + constant(Alphabet(letters), q))

    def test_the_star_of_zero(self):
        ab = Alphabet("ab")
        for f in (null(ab), constant(ab, Ratio(0)), letter(ab, "a").scaled(Ratio(0))):
            self.weighs(star(f), {"": 1})
            self.assertEqual(star(f).size(), f.size() + 1)


class Hadamard(Test):
    def test_size_and_weights(self):
        for f, g in pairs(seed=8):
            u, v = series(f), series(g)
            self.check(hadamard(f, g), f.alphabet, f.size() * g.size(), lambda w: u(w) * v(w))

    def test_unlike_alphabets(self):
        for one, other in UNLIKE:
            for size in (0, 1, 2):
                with self.assertRaises(Malformed):
                    hadamard(Choices(1).machine(one, size), Choices(2).machine(other, size))


class Shuffle(Test):
    def test_size_and_weights(self):
        for f, g in pairs(seed=9):
            u, v = series(f), series(g)
            self.check(shuffle(f, g), f.alphabet, f.size() * g.size(), lambda w: shuffled(u, v, w))

    def test_equal_letters(self):
        for letters in ("a", "ab"):
            f = word_machine(Alphabet(letters), "aa")
            g = word_machine(Alphabet(letters), "aaa")
            self.assertEqual(weight_of(shuffle(f, g), "aaaaa"), 10)
            self.assertEqual(weight_of(shuffle(f, g), "aaaa"), 0)
        f, g = word_machine(Alphabet("ab"), "ab"), word_machine(Alphabet("ab"), "a")
        self.weighs(shuffle(f, g), {"aab": 2, "aba": 1})

    def test_unlike_alphabets(self):
        for one, other in UNLIKE:
            for size in (0, 1, 2):
                with self.assertRaises(Malformed):
                    shuffle(Choices(1).machine(one, size), Choices(2).machine(other, size))


class Quotients(Test):
    def test_size_and_weights(self):
        choices = Choices(10)
        for letters in LETTERS:
            for size in (0, 1, 2, 3):
                f = choices.machine(letters, size)
                weight = series(f)
                for u in all_words(letters, 2):
                    words = all_words(letters, 3 if len(letters) < 3 else 2)
                    self.check(left_quotient(f, u), f.alphabet, size, lambda w: weight(u + w), words)
                    self.check(right_quotient(f, u), f.alphabet, size, lambda w: weight(w + u), words)

    def test_longer_words(self):
        f = Choices(11).machine("ab", 3)
        for u in ("abb", "bbaab", "aaaaabab"):
            self.check(left_quotient(f, u), f.alphabet, 3, lambda w: weight_of(f, u + w))
            self.check(right_quotient(f, u), f.alphabet, 3, lambda w: weight_of(f, w + u))

    def test_refused(self):
        for letters in LETTERS:
            for size in (0, 1, 2):
                f = Choices(12).machine(letters, size)
                for word in ("z", "az", "za", "aza", "A", " ", "a a", "-"):
                    self.refuses("letter", left_quotient, f, word)
                    self.refuses("letter", right_quotient, f, word)


class Substitution(Test):
    def expected(self, f, weights):
        """The sum over the words of f, no longer than the word, of their Cauchy products."""
        def replaced(u):
            if u == "":
                return lambda w: Fraction(w == "")
            rest = replaced(u[1:])
            return lambda w: cauchy(weights[u[0]], rest, w)
        chosen = [(weight_of(f, u), replaced(u)) for u in all_words(f.alphabet.letters, 3)]
        return lambda w: sum(q * product_of(w) for q, product_of in chosen if q != 0)

    def check_substitution(self, f, table):
        weights = {a: series(machine) for a, machine in table.items()}
        parts = [table[a] for a in f.alphabet]
        size = f.size() * (1 + sum(part.size() for part in parts))
        words = all_words(parts[0].alphabet.letters, 3)
        self.check(substitute(f, table), parts[0].alphabet, size, self.expected(f, weights), words)

    def test_over_the_same_and_over_other_alphabets(self):
        choices = Choices(13)
        for letters, others in (("ab", "ab"), ("ab", "ba"), ("ba", "xy"), ("a", "cab"), ("abc", "z"), ("ba", "b")):
            for size in (0, 1, 2):
                f = choices.machine(letters, size)
                self.check_substitution(f, {a: proper(choices.machine(others, choices.below(3))) for a in letters})

    def test_machines_of_size_zero(self):
        choices = Choices(14)
        for size in (0, 1, 2):
            f = choices.machine("ab", size)
            self.check_substitution(f, {"a": null(Alphabet("cd")), "b": null(Alphabet("cd"))})
            self.check_substitution(f, {"a": null(Alphabet("cd")), "b": letter(Alphabet("cd"), "d")})
            self.check_substitution(f, {"a": word_machine(Alphabet("cd"), "dc"), "b": null(Alphabet("cd"))})

    def test_a_word_for_each_letter(self):
        ab, cd = Alphabet("ab"), Alphabet("cd")
        found = substitute(word_machine(ab, "aba"), {"a": word_machine(cd, "d"), "b": word_machine(cd, "cc")})
        self.weighs(found, {"dccd": 1})
        self.assertEqual(found.size(), 4 * (1 + 2 + 3))

    def test_other_letters_are_not_looked_at(self):
        f = letter(Alphabet("ab"), "a")
        table = {"b": letter(Alphabet("x"), "x"), "a": letter(Alphabet("x"), "x").scaled(Ratio(3))}
        for more in (constant(Alphabet("x"), Ratio(1)), letter(Alphabet("xy"), "y"), null(Alphabet("q")), None, 7):
            found = substitute(f, {"c": more, **table, "x": more})
            self.assertEqual(found.size(), 2 * 5)
            self.assertEqual([weight_of(found, "x" * k) for k in range(4)], [0, 3, 0, 0])

    def test_malformed_and_refused_in_order(self):
        x, y = letter(Alphabet("x"), "x"), letter(Alphabet("xy"), "x")
        whole, other = constant(Alphabet("x"), Ratio(1)), constant(Alphabet("yx"), Ratio(1))
        for size in (0, 2):
            f = Choices(15).machine("ab", size)
            for table in ({}, {"a": x}, {"b": x}, {"a": whole}, {"c": x, "b": x}):
                with self.assertRaises(Malformed):
                    substitute(f, table)
            for table in ({"a": x, "b": y}, {"a": y, "b": x}, {"a": whole, "b": y}, {"a": other, "b": y},
                          {"a": other, "b": whole}, {"a": x, "b": other}):
                with self.assertRaises(Malformed):
                    substitute(f, table)
            for table in ({"a": x, "b": whole}, {"a": whole, "b": x}, {"a": whole, "b": whole}):
                self.refuses("proper", substitute, f, table)


class Words(Test):
    def test_size_and_weights(self):
        for letters in ("a", "ba", "dbca"):
            for word in all_words(letters, 3) + [letters * 3, letters[::-1] * 2]:
                found = word_machine(Alphabet(letters), word)
                words = all_words(letters, 4 if len(letters) < 3 else 3) + [word, word + letters[0], word[1:]]
                self.check(found, Alphabet(letters), len(word) + 1, lambda w: Fraction(w == word), words)

    def test_refused(self):
        for letters in ("a", "ba", "dbca"):
            for word in ("z", "az", "za", "aza", "A", " ", "a a", "-"):
                self.refuses("letter", word_machine, Alphabet(letters), word)


class Always(Test):
    def test_arguments_stay_and_results_are_equal(self):
        calls = (
            lambda f, g: product(f, g), lambda f, g: power(f, 3), lambda f, g: star(proper(f)),
            lambda f, g: hadamard(f, g), lambda f, g: shuffle(f, g), lambda f, g: left_quotient(f, "ab"),
            lambda f, g: right_quotient(f, "ab"), lambda f, g: substitute(f, {"a": proper(f), "b": proper(g)}),
        )
        for call in calls:
            f, g = Choices(16).machine("ab", 2), Choices(17).machine("ab", 3)
            first = call(f, g)
            self.assertEqual((f, g), (Choices(16).machine("ab", 2), Choices(17).machine("ab", 3)))
            self.assertEqual(call(f, g), first)

    def test_the_dict_stays(self):
        x = letter(Alphabet("x"), "x")
        table = {"a": x, "c": None}
        substitute(letter(Alphabet("a"), "a"), table)
        self.assertEqual(table, {"a": letter(Alphabet("x"), "x"), "c": None})

    def test_main_identities(self):
        # (f g) u for a letter: the quotient of a product has two terms, that of a star one.
        choices = Choices(18)
        for letters in ("ab", "ba"):
            f, g = choices.machine(letters, 2), choices.machine(letters, 2)
            for a in letters:
                left = left_quotient(product(f, g), a)
                right = product(left_quotient(f, a), g) + left_quotient(g, a).scaled(f.weight(""))
                again = left_quotient(star(proper(f)), a)
                other = product(left_quotient(proper(f), a), star(proper(f)))
                for word in all_words(letters, 4):
                    self.assertEqual(weight_of(left, word), weight_of(right, word))
                    self.assertEqual(weight_of(again, word), weight_of(other, word))


class Examples(Test):
    def setUp(self):
        self.ab = Alphabet("ab")
        self.a, self.b = letter(self.ab, "a"), letter(self.ab, "b")

    def test_star_of_a_letter(self):
        self.weighs(star(self.a), {"a" * k: 1 for k in range(5)})

    def test_product_of_stars(self):
        found = product(star(self.a), star(self.a))
        self.assertEqual(weight_of(found, "aaa"), 4)
        self.weighs(found, {"a" * k: k + 1 for k in range(5)})

    def test_shuffles_of_letters(self):
        self.weighs(shuffle(self.a, self.b), {"ab": 1, "ba": 1})
        self.weighs(shuffle(self.a, self.a), {"aa": 2})

    def test_left_quotient_of_a_word(self):
        self.weighs(left_quotient(word_machine(self.ab, "ab"), "a"), {"b": 1})

    def test_star_of_the_number_one(self):
        self.refuses("star", star, constant(self.ab, Ratio(1)))

    def test_substitution_into_a_star(self):
        bb = word_machine(self.ab, "bb")
        for second in (bb, self.a, null(self.ab)):
            found = substitute(star(self.a), {"a": bb, "b": second})
            self.weighs(found, {"": 1, "bb": 1, "bbbb": 1})

    def test_numbers_written_by_hand(self):
        f = numbers_machine("ab", (1, 2), (((1, 0), (0, 1)), ((0, 1), ("1/2", 0))), (0, 3))
        self.assertEqual([fraction(f.weight(w)) for w in ("", "a", "b", "bb")], [6, 6, 3, 3])
        self.assertEqual([weight_of(product(f, f), w) for w in ("", "a", "b")], [36, 72, 36])
        self.assertEqual([weight_of(hadamard(f, f), w) for w in ("", "b")], [36, 9])
        self.assertEqual([weight_of(shuffle(f, f), w) for w in ("", "ab")], [36, 12 * weight_of(f, "ab") + 36])

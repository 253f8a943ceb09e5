"""The interface as the document lists it, its examples, and rules of the language that a text shows."""
import ast
import doctest
import inspect
import os
import subprocess
import sys
import unittest
import warnings
from importlib import import_module

import wordweight
from wordweight.console import Console
from wordweight.errors import NoText
from wordweight.linear import Matrix
from wordweight.machine import letter
from wordweight.meaning import weight
from wordweight.plain import Plain
from wordweight.ratio import Ratio, read_ratio
from wordweight.subsets import least_machine
from wordweight.text import read, show
from wordweight.words import Alphabet, divisions, sortings

FOLDER = os.path.dirname(os.path.abspath(wordweight.__file__))

# Each function with its arguments, each class with those of its constructor and of its methods.
INTERFACE = {
    "errors": {
        "Fault": {}, "ZeroDivisor": {}, "Malformed": {},
        "Refused": {"__init__": "(self, reason)"},
        "NoText": {"__init__": "(self, at)"},
    },
    "ratio": {
        "Ratio": {
            "__init__": "(self, n, d=1)", "__add__": "(self, other)", "__sub__": "(self, other)",
            "__mul__": "(self, other)", "__neg__": "(self)", "__eq__": "(self, other)", "__str__": "(self)",
            "inverse": "(self)", "over": "(self, b)", "power": "(self, k)", "compare": "(self, b)", "sign": "(self)",
            "floor": "(self)", "is_zero": "(self)", "whole": None,
        },
        "zero": "()", "one": "()", "total": "(numbers)", "read_ratio": "(text)", "is_integer": "(value)",
    },
    "linear": {
        "dot": "(a, b)", "combine": "(rows, width, weights)",
        "Matrix": {
            "__init__": "(self, rows, width)", "__len__": "(self)", "__eq__": "(self, other)", "__iter__": "(self)",
            "transposed": "(self)", "times": "(self, x)", "__add__": "(self, other)", "__sub__": "(self, other)",
            "__mul__": "(self, other)", "scaled": "(self, r)", "before": "(self, row)", "reduced": "(self)",
            "rank": "(self)", "kernel": "(self)", "solve": "(self, right)", "shows_none": "(self, right, y)",
            "duals": "(self)", "dependence": "(self)",
        },
        "shows_independent": "(rows, width, duals)", "identity": "(n)", "nothing": "(height, width)",
        "is_vector": "(value, length)",
    },
    "words": {
        "Alphabet": {
            "__init__": "(self, letters)", "__len__": "(self)", "__iter__": "(self)", "__contains__": "(self, x)",
            "__eq__": "(self, other)", "index": "(self, letter)", "compare": "(self, u, v)", "rank": "(self, word)",
            "word_at": "(self, rank)", "first_at": "(self, length)", "words": "(self, most)",
        },
        "cuts": "(word)", "divisions": "(word)", "sortings": "(word)",
    },
    "machine": {
        "Machine": {
            "__init__": "(self, alphabet, row, matrices, column)", "size": "(self)", "__eq__": "(self, other)",
            "weight": "(self, word)", "__call__": "(self, word)", "row_after": "(self, word)",
            "column_before": "(self, word)", "__add__": "(self, other)", "__sub__": "(self, other)",
            "__neg__": "(self)", "scaled": "(self, q)", "transposed": "(self)", "changed": "(self, p, q)",
            "weighted_words": "(self, most)",
        },
        "null": "(alphabet)", "constant": "(alphabet, q)", "letter": "(alphabet, a)",
    },
    "expression": {
        "Expression": {
            "__add__": "(self, other)", "__mul__": "(self, other)", "__and__": "(self, other)",
            "__xor__": "(self, other)", "__eq__": "(self, other)", "star": "(self)", "reverse": "(self)",
            "left": "(self, u)", "right": "(self, u)", "depth": "(self)", "count": "(self)", "used_letters": "(self)",
        },
        "number": "(q)", "letter_of": "(a)", "word_of": "(u)", "is_expression": "(value)",
    },
    "text": {"read": "(text)", "show": "(e)"},
    "meaning": {"weight": "(e, word)", "empty_weight": "(e)", "is_defined": "(e)"},
    "deeds": {
        "product": "(f, g)", "hadamard": "(f, g)", "shuffle": "(f, g)", "star": "(f)", "left_quotient": "(f, word)",
        "right_quotient": "(f, word)", "power": "(f, k)", "substitute": "(f, table)", "is_proper": "(f)",
        "word_machine": "(alphabet, word)",
    },
    "build": {"build": "(expression, alphabet, *, most=60)"},
    "unbuild": {"unbuild": "(machine)"},
    "forms": {
        "seen_words": "(machine)", "kept_words": "(machine)", "least_form": "(machine)", "is_zero": "(machine)",
        "rank": "(machine)",
    },
    "differ": {"difference": "(one, two)", "compare": "(one, two)", "agree": "(one, two)"},
    "table": {"table": "(machine, us, vs)", "show_least": "(machine)"},
    "checker": {"takes_agreement": "(one, two, paper)", "takes_least": "(machine, paper)"},
    "poly": {
        "Poly": {
            "__init__": "(self, row)", "__iter__": "(self)", "__eq__": "(self, other)", "__add__": "(self, other)",
            "__sub__": "(self, other)", "__mul__": "(self, other)", "__str__": "(self)", "degree": "(self)",
            "is_zero": "(self)", "coefficient": "(self, k)", "value": "(self, a)", "divide": "(self, q)",
        },
        "common_divisor": "(p, q)",
    },
    "lengths": {
        "length_sums": "(machine, count)", "length_quotient": "(machine)", "recurrence": "(machine)",
        "total": "(machine)", "least_length": "(one, two)",
    },
    "plain": {
        "Plain": {
            "__init__": "(self, alphabet, size, *, starts=(0,), ends=(), moves=())", "__len__": "(self)",
            "__contains__": "(self, x)", "__eq__": "(self, other)", "__str__": "(self)", "runs": "(self, word)",
            "is_determined": "(self)", "joined": "(self, b)", "common": "(self, b)", "without": "(self, b)",
            "complement": "(self)", "turned": "(self)", "words": "(self, most)",
        },
        "read_plain": "(alphabet, text)",
    },
    "subsets": {
        "subset_machine": "(a)", "least_machine": "(a)", "counting": "(a)", "characteristic": "(a)",
        "alike": "(a, b)", "shows_alike": "(a, b, pairs)", "unambiguous": "(a)",
    },
    "packing": {"packed": "(value)", "unpacked": "(data)", "written": "(data)", "read_data": "(text)"},
    "sheet": {
        "full_text": "(names, text)", "read_line": "(alphabet, names, line)", "machine_text": "(machine)",
    },
    "replies": {
        "Reply": {"__init__": "(self, kind, text='', data=())", "__eq__": "(self, other)"},
        "reply_to": "(alphabet, names, line)", "is_right": "(alphabet, names, entry)",
    },
    "log": {"write_log": "(entries)", "read_log": "(text)", "first_wrong": "(alphabet, entries)"},
    "console": {
        "Console": {
            "__init__": "(self, letters, *, most=1000)", "enter": "(self, line)", "__len__": "(self)",
            "__iter__": "(self)", "names": "(self)", "log": "(self)",
        },
    },
}


def texts():
    """The paths and texts of the files of the package."""
    found = []
    for folder, _, names in sorted(os.walk(FOLDER)):
        if not folder.endswith("__pycache__"):
            for name in sorted(names):
                with open(os.path.join(folder, name), encoding="utf-8") as file:
                    found.append((name, file.read()))
    return found


class Interface(unittest.TestCase):
    def test_names_and_arguments(self):
        for file, things in INTERFACE.items():
            module = import_module("wordweight." + file)
            for name, told in things.items():
                thing = vars(module)[name]
                self.assertEqual(thing.__module__, "wordweight." + file, name)
                if isinstance(told, str):
                    self.assertTrue(inspect.isfunction(thing), name)
                    self.assertEqual(str(inspect.signature(thing)), told, name)
                else:
                    self.check_class(thing, told)

    def check_class(self, thing, methods):
        self.assertTrue(inspect.isclass(thing))
        for name, told in methods.items():
            method = vars(thing)[name]
            if told is None:
                self.assertIsInstance(method, property)
            else:
                self.assertEqual(str(inspect.signature(method)), told, (thing, name))

    def test_the_package_itself_defines_nothing(self):
        ran = subprocess.run(
            [sys.executable, "-c", "import wordweight; print([n for n in vars(wordweight) if n[:2] != '__'])"],
            cwd=os.path.dirname(FOLDER), capture_output=True, text=True, check=True)
        self.assertEqual(ran.stdout.strip(), "[]")

    def test_each_file_can_be_imported_first(self):
        for file in INTERFACE:
            subprocess.run([sys.executable, "-c", "import wordweight." + file], cwd=os.path.dirname(FOLDER), check=True)


class Examples(unittest.TestCase):
    def test_of_the_document(self):
        self.assertEqual(str(Ratio(1, 2) + Ratio(-2, 3)), "-1/6")
        with self.assertRaises(ValueError):
            read_ratio("2/4")
        self.assertEqual(Matrix(((Ratio(1), Ratio(2)), (Ratio(2), Ratio(4))), 2).rank(), 1)
        self.assertEqual([w for w in Alphabet("ba").words(2)], ["", "b", "a", "bb", "ba", "ab", "aa"])
        self.assertEqual(divisions("abc"), [("abc",), ("ab", "c"), ("a", "bc"), ("a", "b", "c")])
        self.assertEqual(sortings("ab"), [("", "ab"), ("a", "b"), ("b", "a"), ("ab", "")])
        self.assertEqual(str(letter(Alphabet("ab"), "b").weight("b")), "1")

    def test_of_the_document_on_expressions(self):
        self.assertEqual(show(read("(a+b) *(2 a)")), "(a + b)* (2 a)")
        self.assertEqual(str(weight(read("(a + 2 b)*"), "abb")), "4")
        self.assertEqual(str(weight(read("a # a"), "aa")), "2")
        with self.assertRaises(NoText) as caught:
            read("a + + b")
        self.assertEqual(caught.exception.at, 4)

    def test_of_the_document_on_plain_machines(self):
        a = Plain(Alphabet("ab"), 2, starts=(0,), ends=(1,), moves=((0, "a", 1), (1, "b", 1)))
        self.assertEqual(str(a), "2; 0; 1; 0a1 1b1")
        self.assertTrue("abb" in a)
        self.assertEqual(str(least_machine(a)), "3; 0; 1; 0a1 0b2 1a2 1b1 2a2 2b2")

    def test_of_the_document_on_the_console(self):
        console = Console("ab")
        self.assertEqual(console.enter("let S = (a + 2 b)*").kind, "done")
        self.assertEqual(console.enter("weight S ; abb").text, "4")
        self.assertEqual(console.enter("compare S ; (a + b)*").text, "b")

    def test_of_the_readme(self):
        with open(os.path.join(os.path.dirname(FOLDER), "README.md"), encoding="utf-8") as file:
            text = file.read().replace("```", "")
        test = doctest.DocTestParser().get_doctest(text, {}, "README.md", None, 0)
        self.assertGreater(len(test.examples), 10)
        result = doctest.DocTestRunner(verbose=False).run(test, out=lambda _: None)
        self.assertEqual(result.failed, 0)


class Files(unittest.TestCase):
    def test_names(self):
        for name, _ in texts():
            self.assertRegex(name, r"\A[a-z_0-9]+\.py\Z")

    def test_sizes_and_characters(self):
        for name, text in texts():
            lines = text.split("\n")
            self.assertLessEqual(len(lines), 399, name)
            self.assertLessEqual(max(len(line) for line in lines), 120, name)
            self.assertTrue(all(" " <= character <= "~" or character == "\n" for character in text), name)

    def test_no_warnings(self):
        for name, text in texts():
            with warnings.catch_warnings():
                warnings.simplefilter("error")
                compile(text, name, "exec")

    def test_functions_are_short_and_plain(self):
        for name, text in texts():
            for node in ast.walk(ast.parse(text)):
                if isinstance(node, ast.FunctionDef):
                    self.assertLessEqual(node.end_lineno - node.lineno + 1, 40, (name, node.name))
                self.assertNotIsInstance(node, (ast.Global, ast.AsyncFunctionDef, ast.Div), name)
                if isinstance(node, ast.Constant):
                    self.assertNotIsInstance(node.value, (float, complex), name)
                if isinstance(node, ast.Constant) and isinstance(node.value, str):
                    self.assertNotIn(chr(37), node.value, name)

    def test_imports_name_the_file_that_defines(self):
        library = {"heapq", "math", "itertools", "collections", "__future__"}
        for name, text in texts():
            for node in ast.walk(ast.parse(text)):
                self.assertNotIsInstance(node, ast.Import, name)
                if isinstance(node, ast.ImportFrom) and node.module not in library:
                    self.assertRegex(node.module, r"\Awordweight\.", name)
                    module = import_module(node.module)
                    for alias in node.names:
                        thing = vars(module)[alias.name]
                        self.assertEqual(getattr(thing, "__module__", node.module), node.module, (name, alias.name))

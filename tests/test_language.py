"""Rules of the language of the package that can be seen in the text of its files."""
import ast
import builtins
import os
import unittest

import wordweight

FOLDER = os.path.dirname(os.path.abspath(wordweight.__file__))
CHANGES = ("append", "clear", "extend", "insert", "pop", "remove", "reverse", "setdefault", "update", "sort", "add",
           "discard")
METHODS = set(
    """append clear copy count endswith extend find get index insert isalnum isalpha isdigit islower isspace isupper
    items join keys ljust lower lstrip partition pop remove replace reverse rfind rjust rpartition rsplit rstrip
    setdefault split splitlines startswith strip update upper values zfill bit_length removeprefix removesuffix
    """.split())
BARRED = set(
    """type typing enum Enum register mro elements open input law version_info with_traceback add_note dir eval exec
    exit globals help id locals os quit vars compile super getattr hasattr setattr property staticmethod classmethod
    """.split())
AT_ONCE = ("any", "all", "min", "max", "sum", "sorted")


def trees():
    """The names of the files of the package and their parsed texts."""
    for name in sorted(os.listdir(FOLDER)):
        if name.endswith(".py"):
            with open(os.path.join(FOLDER, name), encoding="utf-8") as file:
                yield name, ast.parse(file.read())


def functions():
    """All functions and methods of the package: their file, their class or "", and their node."""
    for name, tree in trees():
        for node in tree.body:
            if isinstance(node, ast.FunctionDef):
                yield name, "", node
            if isinstance(node, ast.ClassDef):
                for method in node.body:
                    if isinstance(method, ast.FunctionDef):
                        yield name, node.name, method


def is_generator(function):
    return any(isinstance(node, (ast.Yield, ast.YieldFrom)) for node in ast.walk(function))


def bound_names(function):
    """The parameters of a function and what it assigns, also in its comprehensions and handlers."""
    found = [argument.arg for node in ast.walk(function) if isinstance(node, ast.arguments)
             for argument in node.posonlyargs + node.args + node.kwonlyargs]
    found += [node.id for node in ast.walk(function) if isinstance(node, ast.Name) and isinstance(node.ctx, ast.Store)]
    return found + [node.name for node in ast.walk(function) if isinstance(node, ast.ExceptHandler) and node.name]


class Operators(unittest.TestCase):
    """What operators, comparisons, texts, lengths and properties run changes only what it has created itself."""

    def reached(self):
        """The functions that operators run, by their names."""
        every = list(functions())
        waiting = [each for each in every if each[2].decorator_list or
                   (each[2].name.startswith("__") and each[2].name not in ("__init__", "__call__"))]
        found = []
        while waiting:
            each = waiting.pop()
            if each not in found:
                found.append(each)
                names = {node.func.id for node in ast.walk(each[2])
                         if isinstance(node, ast.Call) and isinstance(node.func, ast.Name)}
                attributes = {node.func.attr for node in ast.walk(each[2])
                              if isinstance(node, ast.Call) and isinstance(node.func, ast.Attribute)}
                for other in every:
                    if other[2].name == "__init__":
                        called = other[1] in names
                    else:
                        called = other[2].name in (attributes if other[1] else names)
                    if called:
                        waiting.append(other)
        return found

    def changed_things(self, function):
        """What a function changes: the lists whose items it sets, removes or adds, and the objects of attributes."""
        for node in ast.walk(function):
            if isinstance(node, (ast.Subscript, ast.Attribute)) and isinstance(node.ctx, (ast.Store, ast.Del)):
                yield node.value
            if isinstance(node, ast.Call) and isinstance(node.func, ast.Attribute) and node.func.attr in CHANGES:
                yield node.func.value

    def is_created(self, value):
        if isinstance(value, (ast.List, ast.Dict, ast.ListComp, ast.DictComp)):
            return True
        if isinstance(value, ast.Call):
            return getattr(value.func, "id", "") in ("list", "dict", "sorted", "set")
        if isinstance(value, ast.Subscript):
            return isinstance(value.slice, ast.Slice)
        if isinstance(value, ast.BinOp) and isinstance(value.op, ast.Mult):
            return isinstance(value.left, ast.List) and all(isinstance(x, ast.Constant) for x in value.left.elts)
        if isinstance(value, ast.BinOp) and isinstance(value.op, ast.Add):
            return self.is_created(value.left) and self.is_created(value.right)
        return False

    def test_they_change_only_their_own_lists(self):
        reached = self.reached()
        self.assertGreater(len(reached), 30)
        for file, owner, function in reached:
            for thing in self.changed_things(function):
                place = (file, owner, function.name, thing.lineno)
                self.assertIsInstance(thing, ast.Name, place)
                if thing.id != "self" or function.name != "__init__":
                    given = [node.value for node in ast.walk(function) if isinstance(node, ast.Assign)
                             for target in node.targets if getattr(target, "id", "") == thing.id]
                    stored = [node for node in ast.walk(function) if isinstance(node, ast.Name)
                              and node.id == thing.id and isinstance(node.ctx, ast.Store)]
                    self.assertEqual(len(given), len(stored), place)
                    self.assertTrue(given and all(self.is_created(value) for value in given), place)


class Names(unittest.TestCase):
    def test_no_name_has_two_meanings_in_a_file(self):
        for file, tree in trees():
            taken = {alias.name for node in ast.walk(tree) if isinstance(node, ast.ImportFrom) for alias in node.names}
            taken |= {node.name for node in tree.body if isinstance(node, ast.ClassDef)}
            taken |= set(dir(builtins)) | BARRED
            for name, _, function in functions():
                if name == file:
                    for bound in bound_names(function):
                        self.assertNotIn(bound, taken, (file, function.name))
            for node in tree.body:
                if isinstance(node, ast.FunctionDef):
                    self.assertNotIn(node.name, set(dir(builtins)) | BARRED, file)

    def test_generators_share_their_names_with_nothing_else(self):
        generators = {function.name for _, _, function in functions() if is_generator(function)}
        self.assertIn("words", generators)
        for file, _, function in functions():
            self.assertEqual(function.name in generators, is_generator(function), (file, function.name))
            for bound in bound_names(function):
                self.assertNotIn(bound, generators, (file, function.name))

    def test_attributes_and_methods(self):
        every = list(functions())
        methods = {owner: {function.name for _, other, function in every if other == owner} for _, owner, _ in every}
        for file, owner, function in every:
            for node in ast.walk(function):
                if isinstance(node, ast.Attribute) and isinstance(node.ctx, ast.Store):
                    self.assertEqual(getattr(node.value, "id", ""), "self", (file, function.name))
                    self.assertNotIn(node.attr, methods[owner], (file, owner))
                    self.assertNotIn(node.attr, METHODS - {"count", "index", "find", "get", "join"}, (file, owner))

    def test_called_methods(self):
        own = {function.name for _, owner, function in functions() if owner}
        for file, tree in trees():
            for node in ast.walk(tree):
                if isinstance(node, ast.Call) and isinstance(node.func, ast.Attribute):
                    self.assertIn(node.func.attr, own | METHODS, (file, node.lineno))


class Expressions(unittest.TestCase):
    def test_no_generator_expressions_beside_comparisons(self):
        for file, tree in trees():
            for node in ast.walk(tree):
                self.assertNotIsInstance(node, ast.GeneratorExp, (file, getattr(node, "lineno", 0)))
                if isinstance(node, ast.Call) and getattr(node.func, "id", "") in AT_ONCE:
                    self.assertTrue(node.args, (file, node.lineno))

    def test_no_added_assignments(self):
        for file, tree in trees():
            for node in ast.walk(tree):
                self.assertNotIsInstance(node, (ast.AugAssign, ast.AsyncFunctionDef, ast.Global), file)

    def test_no_exponents_but_literals(self):
        for file, tree in trees():
            for node in ast.walk(tree):
                if isinstance(node, ast.BinOp) and isinstance(node.op, ast.Pow):
                    self.assertIsInstance(node.right, ast.Constant, file)

    def test_sets_are_not_iterated(self):
        for file, tree in trees():
            for node in ast.walk(tree):
                if isinstance(node, (ast.For, ast.comprehension)):
                    over = node.iter
                    self.assertNotIsInstance(over, (ast.Set, ast.SetComp), file)
                    self.assertNotEqual(getattr(getattr(over, "func", None), "id", ""), "set", file)

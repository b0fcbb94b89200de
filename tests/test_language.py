"""What a script can see of the rules of LANGUAGE.md, and that the interface stands in the files that it names."""

import ast
import builtins
import importlib
import os
import unittest

FOLDER = os.path.join(os.path.dirname(os.path.dirname(os.path.abspath(__file__))), "flatrounds")
# The interface of the modules that stand, as the document lists it: a class with its methods, or a function.
INTERFACE = {
    "errors.py": {},
    "programs.py": {
        "Program": ("given", "told", "block"), "names": ("program",), "places": ("program",),
        "statement_at": ("program", "place"), "left_out": ("program", "place"),
        "put_in": ("program", "place", "statement"), "renamed": ("program", "names")},
    "pushes.py": {
        "is_push": ("thing",), "push_of": ("names", "deeds"), "one_more": ("push", "other"),
        "many_times": ("push", "many"), "pushed": ("push", "numbers"), "way": ("push", "name"),
        "gain": ("push", "name"), "tail": ("push",), "turn": ("push",), "deeds_of": ("push", "spare")},
    "runs.py": {
        "results": ("program", "input"), "last": ("program", "input"), "deeds": ("program", "input"),
        "numbers_at": ("program", "input", "moment"), "next_at": ("program", "input", "moment"),
        "done": ("program", "input", "place"), "moment_of": ("program", "input", "place", "time"),
        "first_moment": ("program", "input", "name", "number"), "many_moments": ("program", "input", "name", "number")},
    "live.py": {"Run": ("program", "input")},
    "tables.py": {
        "Table": ("bounds", "measures", "rows"), "value": ("table", "input"), "cell_of": ("table", "input"),
        "row_of": ("table", "cell"), "cells": ("table",), "stretched": ("table", "bounds", "measures"),
        "least": ("table",), "is_least": ("table",), "same": ("one", "other")},
    "tabling.py": {
        "table_of": ("program",), "table_ahead": ("program", "k"), "count_table": ("program", "place"),
        "deeds_table": ("program",)},
    "likeness.py": {
        "alike": ("program", "other"), "unlike_input": ("program", "other"), "unlike_value": ("one", "other"),
        "probes": ("bounds", "measures")},
    "asking.py": {
        "least_input": ("table", "at", "number"), "more_input": ("table", "one", "other"), "falls": ("table", "at", "k"),
        "many_inputs": ("table", "at", "number"), "missed": ("table", "at", "most"), "greatest": ("table", "at"),
        "lowest": ("table", "at"), "equations": ("table",), "same_results": ("table",), "turned_about": ("table",)},
    "building.py": {
        "beside": ("one", "other"), "behind": ("table", "other"), "picked": ("table", "lot"),
        "summed": ("table", "factors"), "lessened": ("table", "at", "number"),
        "chosen": ("table", "at", "one", "other"), "quotient": ("table", "at", "number")},
    "making.py": {
        "program_for": ("table", "given", "told"), "with_clock": ("program", "name"),
        "put_behind": ("program", "other")},
    "trimming.py": {
        "never": ("program",), "idle": ("program",), "done_input": ("program", "place"), "trimmed": ("program",)},
    "codes.py": {
        "Code": ("registers", "steps"), "run_code": ("code", "numbers", "most"), "code_of": ("program",),
        "registers_of": ("program", "input"), "program_of": ("code", "names", "given", "told")},
    "strangers.py": {
        "learned": ("function", "bounds", "measures", "many"), "refuted": ("table", "function", "inputs")},
    "texts.py": {"program_text": ("program",), "table_text": ("table",), "code_text": ("code",)},
    "reading.py": {"read_program": ("text",), "read_table": ("text",), "read_code": ("text",)},
    "desk.py": {"Desk": ()},
}
METHODS = {
    "Program": ("__init__", "__eq__"), "Table": ("__init__", "__eq__"), "Code": ("__init__", "__eq__"),
    "Run": ("__init__", "moment", "numbers", "coming", "go", "back", "till", "till_number", "copy"),
    "Desk": ("__init__", "tell", "undoable")}
ERRORS = (
    "RoundError BadProgram NoPlace NoStatement NoNames NoInput NoMoment NoTime NoName NoNumber NoDeeds NoPush OtherNames "
    "NoNumbers BadTable NoCell NoStretch TooMany OtherShape NoBounds NoIndex NotOne NotUnlike NoIndexes BadCode NotCode "
    "BadAnswer Falling NoInputs BadText NoLine Unknown NothingDone").split()
LIBRARY = {
    "heapq": ("heappush", "heappop", "heapify", "heapreplace", "heappushpop"),
    "math": ("gcd", "lcm", "isqrt", "comb", "perm", "factorial"),
    "itertools": ("product", "combinations", "permutations", "chain", "accumulate", "pairwise", "islice",
                  "zip_longest"),
    "collections": ("defaultdict",),
}
ALLOWED_BUILTINS = set((
    "len range enumerate zip min max sum abs sorted reversed int str bool list tuple dict set frozenset isinstance ord "
    "repr any all divmod pow iter next map bytes object Exception ValueError TypeError KeyError IndexError LookupError "
    "ZeroDivisionError ArithmeticError OverflowError RuntimeError NotImplementedError StopIteration "
    "NotImplemented").split())
ALLOWED_DUNDERS = set((
    "__init__ __eq__ __repr__ __str__ __len__ __enter__ __exit__ __call__ __iter__ __lt__ __le__ __gt__ __ge__ __ne__ "
    "__contains__ __getitem__ __setitem__ __bool__").split())
BARRED_NAMES = set((
    "register mro elements open input law version_info with_traceback add_note attrgetter breakpoint builtins compile "
    "copyright credits delattr dir eval exec exit gc globals help id importlib license locals methodcaller os quit "
    "type vars sys").split())
BARRED_WORDS = "typing enum Enum Flag Generic Protocol ABC namedtuple NamedTuple dataclass overload".split()
BARRED_NODES = (
    ast.Global, ast.AsyncFunctionDef, ast.AsyncFor, ast.AsyncWith, ast.Await, ast.Div, ast.MatMult, ast.Import)
METHODS_OF_VALUES = set((
    "append clear copy count endswith extend find get index insert isalnum isalpha isdigit islower isspace isupper "
    "items join keys ljust lower lstrip partition pop remove replace reverse rfind rjust rpartition rsplit rstrip "
    "setdefault split splitlines startswith strip update upper values zfill bit_length sort add discard").split())
ONES_THAT_TAKE_A_LIST = ("any", "all", "min", "max", "sum", "sorted")


def files():
    return sorted(os.listdir(FOLDER))


def text_of(name):
    with open(os.path.join(FOLDER, name), "rb") as file:
        return file.read().decode("utf-8")


def tree_of(name):
    return ast.parse(text_of(name))


def nodes():
    for name in files():
        for node in ast.walk(tree_of(name)):
            yield name, node


def called(node):
    return node.func.id if isinstance(node, ast.Call) and isinstance(node.func, ast.Name) else None


def bound_names(node):
    """The names that a node binds."""
    if isinstance(node, ast.Name) and not isinstance(node.ctx, ast.Load):
        return [node.id]
    if isinstance(node, ast.arg):
        return [node.arg]
    if isinstance(node, (ast.FunctionDef, ast.ClassDef)):
        return [node.name]
    if isinstance(node, ast.ExceptHandler) and node.name:
        return [node.name]
    return []


class TestFiles(unittest.TestCase):
    def test_the_folder_holds_python_files_alone(self):
        self.assertIn("__init__.py", files())
        for name in files():
            self.assertRegex(name, r"^(__init__|[a-z][a-z0-9_]*)\.py$")
            self.assertNotIn(name[:-3], dir(builtins))

    def test_characters_and_lengths(self):
        for name in files():
            text = text_of(name)
            self.assertTrue(all(char == "\n" or " " <= char <= "~" for char in text), name)
            lines = text.split("\n")
            self.assertLessEqual(len(lines), 400, name)
            self.assertLessEqual(max(len(line) for line in lines), 120, name)
            self.assertEqual([line for line in lines if line != line.rstrip()], [])

    def test_functions_are_short(self):
        for name, node in nodes():
            if isinstance(node, ast.FunctionDef):
                self.assertLessEqual(node.end_lineno - node.lineno + 1, 40, (name, node.name))

    def test_module_level(self):
        for name in files():
            bound = []
            for node in tree_of(name).body:
                if isinstance(node, ast.ImportFrom):
                    bound.extend(alias.name for alias in node.names)
                elif isinstance(node, (ast.FunctionDef, ast.ClassDef)):
                    bound.append(node.name)
                elif isinstance(node, ast.Assign):
                    self.assertEqual([target.__class__ for target in node.targets], [ast.Name], name)
                    ast.literal_eval(node.value)
                    bound.append(node.targets[0].id)
                else:
                    self.assertIsInstance(node, ast.Expr, name)
                    self.assertIsInstance(node.value, ast.Constant, name)
            self.assertEqual(sorted(bound), sorted(set(bound)), name)


class TestImports(unittest.TestCase):
    def test_imports_name_the_file_that_defines(self):
        defined = {name: [one.name for one in tree_of(name).body if isinstance(one, (ast.FunctionDef, ast.ClassDef))]
                   + [one.targets[0].id for one in tree_of(name).body if isinstance(one, ast.Assign)]
                   for name in files()}
        for name, node in nodes():
            if not isinstance(node, ast.ImportFrom):
                continue
            self.assertEqual(node.level, 0)
            for alias in node.names:
                self.assertIsNone(alias.asname)
                if node.module in LIBRARY:
                    self.assertIn(alias.name, LIBRARY[node.module])
                else:
                    self.assertRegex(node.module, r"^flatrounds\.[a-z0-9_]+$")
                    self.assertIn(alias.name, defined[node.module.split(".")[1] + ".py"], name)

    def test_no_two_files_import_from_each_other(self):
        reached = {name: {node.module.split(".")[1] + ".py" for node in tree_of(name).body
                          if isinstance(node, ast.ImportFrom) and node.module.startswith("flatrounds.")}
                   for name in files()}
        for _ in files():
            for found in reached.values():
                for other in list(found):
                    found |= reached[other]
        for name, found in reached.items():
            self.assertNotIn(name, found)

    def test_imports_are_used(self):
        for name in files():
            tree = tree_of(name)
            used = {node.id for node in ast.walk(tree) if isinstance(node, ast.Name)}
            for node in tree.body:
                if isinstance(node, ast.ImportFrom):
                    for alias in node.names:
                        self.assertIn(alias.name, used, name)


class TestNames(unittest.TestCase):
    def test_no_builtin_is_bound_and_no_barred_name(self):
        for name, node in nodes():
            for bound in bound_names(node):
                inside = isinstance(node, ast.FunctionDef) and bound in ALLOWED_DUNDERS
                self.assertTrue(inside or bound not in dir(builtins), (name, bound))
                self.assertNotIn(bound, BARRED_NAMES, name)
                self.assertTrue(inside or bound == "_" or not bound.startswith("__"), (name, bound))
                self.assertTrue(bound.isascii())

    def test_only_allowed_builtins_are_used(self):
        for name, node in nodes():
            if isinstance(node, ast.Name) and node.id in dir(builtins):
                self.assertIn(node.id, ALLOWED_BUILTINS, name)
            if isinstance(node, ast.Name) and isinstance(node.ctx, ast.Load):
                self.assertNotEqual(node.id, "_", name)

    def test_barred_words(self):
        for name, node in nodes():
            if isinstance(node, ast.Constant) and isinstance(node.value, str):
                self.assertNotIn("%", node.value)
                self.assertFalse(node.value.startswith("__") and node.value.endswith("__"))
            for bound in bound_names(node):
                self.assertNotIn(bound, BARRED_WORDS, name)

    def test_methods_that_are_called(self):
        own = {node.name for _, node in nodes() if isinstance(node, ast.FunctionDef)}
        for name, node in nodes():
            if isinstance(node, ast.Call) and isinstance(node.func, ast.Attribute):
                self.assertIn(node.func.attr, METHODS_OF_VALUES | own, name)

    def test_attributes_that_are_read_are_assigned(self):
        stored = {node.attr for _, node in nodes() if isinstance(node, ast.Attribute) and isinstance(node.ctx, ast.Store)}
        own = {node.name for _, node in nodes() if isinstance(node, ast.FunctionDef)}
        for name, node in nodes():
            if isinstance(node, ast.Attribute) and isinstance(node.ctx, ast.Load):
                self.assertIn(node.attr, stored | own | METHODS_OF_VALUES, name)


    def test_locals_have_no_names_of_imports_and_classes(self):
        for name in files():
            tree = tree_of(name)
            taken = {alias.name for node in tree.body if isinstance(node, ast.ImportFrom) for alias in node.names}
            taken |= {node.name for node in tree.body if isinstance(node, ast.ClassDef)}
            for node in ast.walk(tree):
                if not isinstance(node, ast.ClassDef):
                    for bound in bound_names(node):
                        self.assertNotIn(bound, taken, name)

    def test_methods_and_attributes_of_a_class_have_unlike_names(self):
        for name, node in nodes():
            if isinstance(node, ast.ClassDef):
                methods = [one.name for one in node.body if isinstance(one, ast.FunctionDef)]
                self.assertEqual(len(methods), len(set(methods)))
                stored = {one.attr for one in ast.walk(node) if isinstance(one, ast.Attribute) and isinstance(one.ctx, ast.Store)}
                self.assertFalse(stored & set(methods), (name, node.name))


class TestStatements(unittest.TestCase):
    def test_barred_nodes(self):
        for name, node in nodes():
            self.assertNotIsInstance(node, BARRED_NODES, name)
            if isinstance(node, ast.Constant):
                self.assertNotIsInstance(node.value, (float, complex), name)
            if isinstance(node, (ast.FunctionDef, ast.ClassDef)):
                for decorator in node.decorator_list:
                    self.assertIn(ast.unparse(decorator).split(".")[-1],
                                  ("property", "setter", "staticmethod", "classmethod"))

    def test_generator_expressions_stand_in_list_tuple_dict_and_join(self):
        for name, node in nodes():
            if called(node) in ONES_THAT_TAKE_A_LIST:
                for part in node.args:
                    self.assertNotIsInstance(part, ast.GeneratorExp, (name, node.lineno))

    def test_is_stands_with_none_true_and_false(self):
        for name, node in nodes():
            if isinstance(node, ast.Compare):
                for sign, side in zip(node.ops, node.comparators):
                    if isinstance(sign, (ast.Is, ast.IsNot)):
                        self.assertIsInstance(side, ast.Constant, (name, node.lineno))

    def test_errors_are_created_where_they_are_raised(self):
        for name, node in nodes():
            if isinstance(node, ast.Raise) and node.exc is not None:
                self.assertIsNotNone(called(node.exc), (name, node.lineno))
            if isinstance(node, ast.ExceptHandler):
                self.assertIsNotNone(node.type, (name, node.lineno))

    def test_sets_are_not_iterated(self):
        for name, node in nodes():
            if isinstance(node, (ast.For, ast.comprehension)):
                self.assertNotIsInstance(node.iter, (ast.Set, ast.SetComp), name)
                self.assertNotIn(called(node.iter), ("set", "frozenset"), name)

    def test_loops_do_not_change_what_they_go_over(self):
        for name, node in nodes():
            if isinstance(node, ast.For) and isinstance(node.iter, ast.Name):
                for one in ast.walk(node):
                    if isinstance(one, ast.Call) and isinstance(one.func, ast.Attribute):
                        changing = one.func.attr in ("append", "extend", "pop", "insert", "remove", "clear", "update", "sort")
                        if changing and isinstance(one.func.value, ast.Name):
                            self.assertNotEqual(one.func.value.id, node.iter.id, (name, node.lineno))
                    if isinstance(one, ast.Subscript) and not isinstance(one.ctx, ast.Load) and isinstance(one.value, ast.Name):
                        self.assertNotEqual(one.value.id, node.iter.id, (name, node.lineno))

    def test_one_lambda_in_a_statement(self):
        for name, node in nodes():
            if isinstance(node, (ast.Assign, ast.Return, ast.Expr)):
                self.assertLessEqual(len([one for one in ast.walk(node) if isinstance(one, ast.Lambda)]), 1, (name, node.lineno))

    def test_views_and_ranges_are_iterated_at_once(self):
        for name, node in nodes():
            if isinstance(node, (ast.Assign, ast.Return)):
                self.assertNotIn(called(node.value), ("zip", "enumerate", "range", "reversed", "map", "set"), (name, node.lineno))

    def test_unary_and_exponents(self):
        for name, node in nodes():
            if isinstance(node, ast.BinOp) and isinstance(node.op, ast.Pow):
                self.assertIsInstance(node.right, (ast.Constant, ast.Name, ast.BinOp), (name, node.lineno))


class TestInterface(unittest.TestCase):
    def test_errors_are_defined_in_their_own_file(self):
        self.assertEqual([node.name for node in tree_of("errors.py").body if isinstance(node, ast.ClassDef)], ERRORS)

    def test_each_file_of_the_interface_stands(self):
        self.assertEqual([name for name in INTERFACE if name not in files()], [])

    def test_names_can_be_imported(self):
        for name, listed in INTERFACE.items():
            module = importlib.import_module("flatrounds." + name[:-3])
            for wanted in listed:
                self.assertEqual(getattr(module, wanted).__module__, module.__name__)

    def test_all_is_defined_in_its_own_file(self):
        for name, listed in INTERFACE.items():
            body = {node.name: node for node in tree_of(name).body if isinstance(node, (ast.FunctionDef, ast.ClassDef))}
            for wanted, arguments in listed.items():
                node = body[wanted]
                if isinstance(node, ast.ClassDef):
                    methods = {one.name: one for one in node.body if isinstance(one, ast.FunctionDef)}
                    for method in METHODS[wanted]:
                        self.assertIn(method, methods)
                    passed = methods["__init__"].args.args[1:]
                else:
                    passed = node.args.args
                self.assertEqual(len(passed), len(arguments), wanted)
                self.assertEqual(node.args.defaults if isinstance(node, ast.FunctionDef) else [], [])


if __name__ == "__main__":
    unittest.main()

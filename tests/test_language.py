"""The rules of the program's language, as far as they can be read off the files."""

import ast
import builtins
import unittest
from pathlib import Path

# Running examples leaves the last value behind among Python's own names.
OWN_NAMES = set(dir(builtins)) - {"_"}
PACKAGE = Path(__file__).resolve().parent.parent / "heardonce"
BUILTINS = {
    "len", "range", "enumerate", "zip", "min", "max", "sum", "abs", "sorted", "reversed", "int", "str", "bool",
    "list", "tuple", "dict", "set", "isinstance", "ord", "repr", "any", "all", "divmod", "iter", "next", "map",
    "ValueError", "KeyError", "IndexError", "LookupError", "TypeError", "property", "classmethod",
}
LIBRARY = {("math", "gcd")}
METHODS = {
    "append", "clear", "copy", "count", "endswith", "extend", "find", "get", "index", "insert", "isalnum", "isalpha",
    "isdigit", "islower", "isspace", "isupper", "items", "join", "keys", "ljust", "lower", "lstrip", "partition",
    "pop", "remove", "replace", "reverse", "rfind", "rjust", "rpartition", "rsplit", "rstrip", "setdefault", "split",
    "splitlines", "startswith", "strip", "update", "upper", "values", "zfill", "bit_length", "isascii", "sort", "add",
    "discard", "__init__",
}
BARRED = {
    "register", "mro", "elements", "open", "input", "law", "version_info", "with_traceback", "add_note", "attrgetter",
    "breakpoint", "builtins", "compile", "copyright", "credits", "delattr", "dir", "eval", "exec", "exit", "gc",
    "getattr", "globals", "hasattr", "help", "id", "importlib", "license", "locals", "methodcaller", "os", "quit",
    "setattr", "super", "type", "vars", "sys",
}
BARRED_WORDS = {
    "type", "typing", "enum", "Enum", "Flag", "Generic", "Protocol", "ABC", "namedtuple", "dataclass", "overload",
    "contextmanager", "_wall",
}
ITERATED_IN = {"list", "tuple", "dict", "sorted", "sum", "any", "all", "enumerate", "zip", "min", "max"}
STATEMENTS = (
    ast.Assign, ast.AugAssign, ast.If, ast.While, ast.For, ast.Return, ast.Break, ast.Continue, ast.Pass, ast.Raise,
    ast.Assert, ast.Delete, ast.Nonlocal, ast.Match, ast.Try, ast.Expr, ast.FunctionDef, ast.ClassDef,
    ast.ImportFrom,
)


def files():
    return sorted(path for path in PACKAGE.iterdir() if path.suffix == ".py")


def tree_of(path):
    tree = ast.parse(path.read_text())
    for node in ast.walk(tree):
        for child in ast.iter_child_nodes(node):
            child.parent = node
    return tree


def nodes(kind):
    return [(path.name, node) for path in files() for node in ast.walk(tree_of(path)) if isinstance(node, kind)]


def defined_in(tree):
    names = [node.name for node in tree.body if isinstance(node, (ast.FunctionDef, ast.ClassDef))]
    return names + [node.targets[0].id for node in tree.body if isinstance(node, ast.Assign)]


def imported_in(tree):
    return [(node.module, alias.name) for node in tree.body if isinstance(node, ast.ImportFrom) for alias in node.names]


def names_stored(tree):
    """All names of parameters and variables in functions, and of handlers."""
    names = [node.arg for node in ast.walk(tree) if isinstance(node, ast.arg)]
    return names + [
        node.id for node in ast.walk(tree)
        if isinstance(node, ast.Name) and isinstance(node.ctx, ast.Store) and node.parent not in tree.body
    ]


def own_methods():
    return {
        row.name for _, node in nodes(ast.ClassDef) for row in node.body if isinstance(row, ast.FunctionDef)
    }


def call_name(node):
    return node.func.id if isinstance(node, ast.Call) and isinstance(node.func, ast.Name) else None


class Files(unittest.TestCase):
    def test_folder(self):
        for path in PACKAGE.iterdir():
            self.assertTrue(path.suffix == ".py" or path.name == "__pycache__", path)
            self.assertEqual(path.name, path.name.lower())
            self.assertNotIn(path.stem, OWN_NAMES)
        self.assertLessEqual(len(files()), 100)

    def test_sizes_and_characters(self):
        for path in files():
            text = path.read_text()
            lines = text.split("\n")
            self.assertLessEqual(len(lines), 400, path)
            self.assertTrue(text.endswith("\n"))
            self.assertTrue(all(len(line) <= 120 for line in lines), path)
            self.assertTrue(all(" " <= sign <= "~" or sign == "\n" for sign in text), path)

    def test_sizes_of_functions(self):
        for name, node in nodes(ast.FunctionDef):
            self.assertLessEqual(node.end_lineno - node.lineno + 1, 40, (name, node.name))

    def test_words(self):
        for path in files():
            for node in ast.walk(tree_of(path)):
                if isinstance(node, ast.Constant) and isinstance(node.value, str):
                    self.assertNotIn("%", node.value, path)
                    words = node.value.replace("(", " ").replace(")", " ").split()
                    self.assertFalse(BARRED_WORDS & set(words), path)
                    self.assertFalse(node.value.endswith("._"))


class ModuleLevel(unittest.TestCase):
    def test_statements(self):
        for name, node in nodes(ast.stmt):
            self.assertIsInstance(node, STATEMENTS, (name, node.lineno))

    def test_module_level(self):
        for path in files():
            body = tree_of(path).body
            self.assertIsInstance(body[0], ast.Expr, path)
            for node in body[1:]:
                self.assertIsInstance(node, (ast.ImportFrom, ast.FunctionDef, ast.ClassDef, ast.Assign), path)
                if isinstance(node, ast.Assign):
                    self.check_plain(node, path)

    def check_plain(self, node, path):
        self.assertEqual(len(node.targets), 1)
        self.assertIsInstance(node.targets[0], ast.Name)
        plain = (ast.Constant, ast.Tuple, ast.List, ast.Dict, ast.Name, ast.Load)
        for part in ast.walk(node.value):
            self.assertIsInstance(part, plain, path)
            if isinstance(part, (ast.List, ast.Dict)):
                self.assertIs(part, node.value)

    def test_bound_once(self):
        for path in files():
            tree = tree_of(path)
            names = defined_in(tree) + [name for _, name in imported_in(tree)]
            self.assertEqual(len(names), len(set(names)), path)
            self.assertFalse(set(names_stored(tree)) & {name for _, name in imported_in(tree)}, path)
            self.assertFalse(set(names) & OWN_NAMES, path)

    def test_imports(self):
        defined = {"heardonce." + path.stem: defined_in(tree_of(path)) for path in files()}
        needs = {}
        for path in files():
            tree = tree_of(path)
            for node in ast.walk(tree):
                if isinstance(node, ast.ImportFrom):
                    self.assertIn(node, tree.body)
                    self.assertEqual(node.level, 0)
                    self.assertTrue(all(alias.asname is None for alias in node.names))
            for module, name in imported_in(tree):
                if (module, name) not in LIBRARY:
                    self.assertIn(name, defined[module], path)
                    needs.setdefault("heardonce." + path.stem, set()).add(module)
            used = [node.id for node in ast.walk(tree) if isinstance(node, ast.Name)]
            for _, name in imported_in(tree):
                self.assertIn(name, used, path)
        self.check_no_circle(needs)

    def check_no_circle(self, needs):
        done = set()
        while len(done) < len(needs):
            ready = [one for one in needs if one not in done and all(
                other in done or other not in needs for other in needs[one]
            )]
            self.assertTrue(ready, "files import from each other")
            done.update(ready)


class Names(unittest.TestCase):
    def test_no_barred_names(self):
        barred = BARRED | OWN_NAMES
        for path in files():
            tree = tree_of(path)
            names = set(names_stored(tree)) | set(defined_in(tree))
            self.assertFalse(names & barred, path)
            self.assertFalse([name for name in names if name.startswith("__") or name.startswith("_wall")], path)
            attributes = {node.attr for node in ast.walk(tree) if isinstance(node, ast.Attribute)}
            self.assertFalse(attributes & {"register", "mro", "elements", "open", "input", "law", "args"}, path)

    def test_builtins_and_methods(self):
        methods = METHODS | own_methods()
        for path in files():
            tree = tree_of(path)
            own = set(defined_in(tree)) | {name for _, name in imported_in(tree)} | set(names_stored(tree))
            for node in ast.walk(tree):
                if isinstance(node, ast.Name) and node.id not in own:
                    self.assertIn(node.id, BUILTINS, (path, node.lineno))
                if isinstance(node, ast.Call) and isinstance(node.func, ast.Attribute):
                    self.assertIn(node.func.attr, methods, (path, node.lineno))
                    self.assertFalse(node.keywords, (path, node.lineno))

    def test_underscore_is_never_read(self):
        for name, node in nodes(ast.Name):
            if node.id == "_":
                self.assertIsInstance(node.ctx, ast.Store, (name, node.lineno))


class Expressions(unittest.TestCase):
    def test_no_other_kinds(self):
        barred = (ast.Await, ast.YieldFrom, ast.SetComp, ast.Set, ast.Div, ast.AsyncFor, ast.Global, ast.Try)
        for name, node in nodes(barred):
            # The one "finally" of the package is looked at below.
            self.assertTrue(isinstance(node, ast.Try) and name == "lifebenches.py", (name, node.lineno))
        for name, node in nodes(ast.Constant):
            self.assertNotIsInstance(node.value, (float, complex, bytes), name)

    def test_is(self):
        for name, node in nodes(ast.Compare):
            for sign, other in zip(node.ops, node.comparators):
                if isinstance(sign, (ast.Is, ast.IsNot)):
                    self.assertIsInstance(other, ast.Constant, (name, node.lineno))

    def test_iterated_at_once(self):
        for name, node in nodes(ast.Call):
            is_view = isinstance(node.func, ast.Attribute) and node.func.attr in ("items", "keys", "values")
            if is_view or call_name(node) in ("zip", "enumerate", "range", "reversed", "map"):
                above = node.parent
                is_loop = isinstance(above, (ast.For, ast.comprehension)) and above.iter is node
                self.assertTrue(is_loop or call_name(above) in ITERATED_IN, (name, node.lineno))

    def test_generator_expressions(self):
        # Where a class has its own "==", what looks through a row takes a list.
        for name, node in nodes(ast.GeneratorExp):
            above = node.parent
            is_join = isinstance(above, ast.Call) and getattr(above.func, "attr", None) == "join"
            self.assertTrue(is_join or call_name(above) in ("tuple", "list", "dict"), (name, node.lineno))

    def test_reversed_and_sort(self):
        for name, node in nodes(ast.Call):
            self.assertNotEqual(getattr(node.func, "attr", None), "sort", (name, node.lineno))
            if call_name(node) == "reversed":
                self.assertIn(call_name(node.args[0]), ("list", "tuple", "range", "sorted"), (name, node.lineno))

    def test_sets(self):
        for name, node in nodes(ast.Call):
            if call_name(node) == "set":
                self.assertIn(call_name(node.parent), ("sorted", "len"), (name, node.lineno))

    def test_loops_leave_what_they_go_over(self):
        for name, node in nodes(ast.For):
            over = {part.id for part in ast.walk(node.iter) if isinstance(part, ast.Name)}
            for row in node.body:
                for part in ast.walk(row):
                    if isinstance(part, ast.Name) and isinstance(part.ctx, (ast.Store, ast.Del)):
                        self.assertNotIn(part.id, over, (name, part.lineno))
                    if isinstance(part, ast.Call) and isinstance(part.func, ast.Attribute):
                        if part.func.attr in ("append", "extend", "insert", "pop", "remove", "clear", "sort"):
                            self.assertNotIn(getattr(part.func.value, "id", ""), over, (name, part.lineno))

    def test_raised_on_the_spot(self):
        for name, node in nodes(ast.Raise):
            self.assertIsInstance(node.exc, ast.Call, (name, node.lineno))
            self.assertIsInstance(node.exc.func, ast.Name)

    def test_no_power_of_a_name(self):
        for name, node in nodes(ast.BinOp):
            if isinstance(node.op, ast.Pow):
                self.assertIsInstance(node.right, ast.Constant, (name, node.lineno))

    def test_calls_pass_what_functions_take(self):
        takes = {}
        for path in files():
            tree = tree_of(path)
            for node in tree.body:
                if isinstance(node, ast.FunctionDef):
                    takes[path.stem, node.name] = len(node.args.args)
                if isinstance(node, ast.ClassDef):
                    made = [row for row in node.body if getattr(row, "name", "") == "__init__"]
                    takes[path.stem, node.name] = len(made[0].args.args) - 1 if made else 1
        for path in files():
            tree = tree_of(path)
            own = {name: (path.stem, name) for name in defined_in(tree)}
            own.update({name: (module.partition(".")[2], name) for module, name in imported_in(tree)})
            for node in ast.walk(tree):
                is_error = isinstance(node.parent, ast.Raise) if isinstance(node, ast.Call) else False
                if call_name(node) in own and own[call_name(node)] in takes and not is_error:
                    self.assertEqual(len(node.args), takes[own[call_name(node)]], (path, node.lineno))


CLASS_METHODS = {
    "__init__", "__eq__", "__str__", "__len__", "__iter__", "__add__", "__iadd__", "__lshift__", "__rshift__",
    "__getitem__", "__contains__", "__bool__",
}
CHANGING = {"__init__", "__iadd__", "__iter__"}
MODIFYING = {
    "append", "clear", "extend", "insert", "pop", "remove", "reverse", "setdefault", "update", "add", "discard",
}


def plain_decorators(node):
    return [part.id for part in node.decorator_list if isinstance(part, ast.Name)]


def functions_of(tree):
    return {node.name: node for node in tree.body if isinstance(node, ast.FunctionDef)}


def classes_of(tree):
    return {node.name: node for node in tree.body if isinstance(node, ast.ClassDef)}


class Reached:
    """All functions that operators and properties run, as pairs of a module and a function."""

    def __init__(self):
        self.trees = {path.stem: tree_of(path) for path in files()}
        self.found = {}
        for module, tree in self.trees.items():
            for one in classes_of(tree).values():
                for row in one.body:
                    if isinstance(row, ast.FunctionDef) and self.is_first(row):
                        self.add(module, one.name + "." + row.name, row)

    def is_first(self, row):
        is_operator = row.name.startswith("__") and row.name not in CHANGING
        return is_operator or "property" in plain_decorators(row)

    def add(self, module, name, node):
        if (module, name) in self.found:
            return
        self.found[module, name] = node
        for part in ast.walk(node):
            if call_name(part):
                self.add_called(module, call_name(part))

    def add_called(self, module, name):
        tree = self.trees[module]
        for other, imported in imported_in(tree):
            if imported == name and other.startswith("heardonce."):
                self.add_called(other.partition(".")[2], name)
        if name in functions_of(tree):
            self.add(module, name, functions_of(tree)[name])
        if name in classes_of(tree):
            for row in classes_of(tree)[name].body:
                if getattr(row, "name", "") == "__init__":
                    self.add(module, name + ".__init__", row)


def made_here(node):
    """The names of lists and dicts that a function itself makes as literals."""
    return {
        row.targets[0].id for row in ast.walk(node)
        if isinstance(row, ast.Assign) and isinstance(row.targets[0], ast.Name)
        and isinstance(row.value, (ast.List, ast.Dict, ast.ListComp))
    }


class Classes(unittest.TestCase):
    def test_methods(self):
        for name, node in nodes(ast.ClassDef):
            if name == "errors.py":
                continue
            self.assertFalse(node.decorator_list or node.bases or node.keywords, name)
            for row in node.body:
                is_docstring = isinstance(row, ast.Expr) and isinstance(row.value, ast.Constant)
                self.assertTrue(is_docstring or isinstance(row, ast.FunctionDef), (name, row.lineno))
                if isinstance(row, ast.FunctionDef) and row.name.startswith("__"):
                    self.assertIn(row.name, CLASS_METHODS)

    def test_decorators(self):
        for name, node in nodes(ast.FunctionDef):
            self.assertIn(plain_decorators(node), ([], ["property"], ["classmethod"]), (name, node.lineno))
            self.assertEqual(len(plain_decorators(node)), len(node.decorator_list))
            self.assertTrue(not node.decorator_list or isinstance(node.parent, ast.ClassDef))

    def test_names_of_methods_and_attributes(self):
        stored = {node.attr for _, node in nodes(ast.Attribute) if isinstance(node.ctx, ast.Store)}
        read = {node.attr for _, node in nodes(ast.Attribute)}
        self.assertFalse(stored & own_methods())
        self.assertLessEqual(read, stored | own_methods() | METHODS)
        self.assertNotIn("keys", stored | own_methods())

    def test_attributes_are_assigned_through_self(self):
        for name, node in nodes(ast.Attribute):
            if isinstance(node.ctx, ast.Store):
                self.assertEqual(getattr(node.value, "id", ""), "self", (name, node.lineno))

    def test_generators(self):
        makers = set()
        for name, node in nodes(ast.Yield):
            self.assertIsInstance(node.parent, ast.Expr)
            above = node
            while not isinstance(above, ast.FunctionDef):
                self.assertNotIsInstance(above, (ast.Try, ast.With))
                above = above.parent
            makers.add(above.name)
        self.assertEqual(makers, {"lines"})
        self.assertEqual([node.name for _, node in nodes(ast.FunctionDef)].count("lines"), 1)

    def test_finally(self):
        for name, node in nodes(ast.Try):
            self.assertFalse(node.handlers or node.orelse)
            self.assertEqual(len(node.finalbody), 1)
            test = node.finalbody[0]
            self.assertIsInstance(test, ast.If)
            self.assertIsInstance(test.test.ops[0], ast.Is)
            for row in test.body:
                self.assertIsInstance(row, ast.Assign, (name, row.lineno))
                self.assertIsInstance(row.value, ast.Name, (name, row.lineno))

    def test_no_words_about_metaclasses(self):
        for path in files():
            for word in ("(type)", "Meta", "metaclass="):
                self.assertNotIn(word, path.read_text())


class Operators(unittest.TestCase):
    def setUp(self):
        self.found = Reached().found

    def test_what_is_reached(self):
        for name in ("behind", "arrived", "is_event", "world_told", "all_faults", "text_of_tale", "calm_step"):
            self.assertIn(name, [found for _, found in self.found])

    def test_nothing_is_changed(self):
        for (module, name), node in self.found.items():
            made = made_here(node)
            for part in ast.walk(node):
                place = (module, name, getattr(part, "lineno", 0))
                self.assertNotIsInstance(part, (ast.AugAssign, ast.Delete, ast.Lambda, ast.Yield), place)
                if isinstance(part, ast.Attribute) and isinstance(part.ctx, ast.Store):
                    self.assertTrue(name.endswith(".__init__"), place)
                if isinstance(part, ast.Subscript) and isinstance(part.ctx, ast.Store):
                    self.assertIn(getattr(part.value, "id", ""), made, place)
                if isinstance(part, ast.Call) and isinstance(part.func, ast.Attribute):
                    if part.func.attr in MODIFYING:
                        self.assertIn(getattr(part.func.value, "id", ""), made, place)

    def test_nothing_passed_is_called(self):
        for (module, name), node in self.found.items():
            own = {arg.arg for arg in node.args.args} | made_here(node)
            names = [part for part in ast.walk(node) if isinstance(part, ast.Name)]
            stored = {part.id for part in names if isinstance(part.ctx, ast.Store)}
            for part in ast.walk(node):
                if call_name(part) and call_name(part) != "cls":
                    self.assertNotIn(call_name(part), own | stored, (module, name))
                if isinstance(part, ast.Call):
                    self.assertFalse(part.keywords, (module, name))


if __name__ == "__main__":
    unittest.main()

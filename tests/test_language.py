"""Rules of the language that can be seen in the files of the package: size, imports, signs and names."""

import ast
import builtins
import os
import unittest

FOLDER = os.path.join(os.path.dirname(os.path.dirname(os.path.abspath(__file__))), "standinparts")
BUILTINS = set(
    "len range enumerate zip min max sum abs sorted reversed int str bool bytes list tuple dict set frozenset map "
    "isinstance ord repr any all divmod pow getattr hasattr setattr iter next super property staticmethod classmethod "
    "Exception ValueError TypeError KeyError IndexError LookupError ZeroDivisionError ArithmeticError OverflowError "
    "RuntimeError NotImplementedError AttributeError StopIteration NotImplemented object".split())
METHODS = set(
    "append clear copy count endswith extend find get index insert isalnum isalpha isdigit islower isspace isupper "
    "items join keys ljust lower lstrip partition pop remove replace reverse rfind rjust rpartition rsplit rstrip "
    "setdefault split splitlines startswith strip update upper values zfill bit_length add discard isascii isdecimal "
    "removeprefix removesuffix rindex".split())
SPECIAL = set(
    "init eq repr str len enter exit call iter lt le gt ge ne add sub mul floordiv mod pow and or xor lshift rshift "
    "radd rsub rmul rfloordiv rmod rand ror rxor rlshift rrshift iadd isub imul ifloordiv imod iand ior ixor neg pos "
    "invert abs bool contains getitem setitem".split())
LIBRARY = {"heapq": "heappush heappop heapify heapreplace heappushpop", "math": "gcd lcm isqrt comb perm factorial",
           "itertools": "product combinations permutations chain accumulate pairwise islice zip_longest",
           "collections": "defaultdict"}
CHANGING = set("append clear extend insert pop remove reverse setdefault sort update add discard".split())
BARRED = (ast.Global, ast.AsyncFunctionDef, ast.AsyncFor, ast.AsyncWith, ast.Await, ast.Div, ast.MatMult, ast.Import)


def files():
    """The names of the files of the package."""
    return sorted(name for name in os.listdir(FOLDER) if name != "__pycache__")


def text_of(name):
    """The text of a file of the package."""
    with open(os.path.join(FOLDER, name), encoding="utf-8") as file:
        return file.read()


def nodes():
    """All nodes of all files, with the names of the files."""
    return [(name, node) for name in files() for node in ast.walk(ast.parse(text_of(name)))]


def functions():
    """All functions and methods, as tuples (file, class or None, node)."""
    found = []
    for name in files():
        for node in ast.parse(text_of(name)).body:
            if isinstance(node, ast.FunctionDef):
                found.append((name, None, node))
            if isinstance(node, ast.ClassDef):
                found.extend((name, node.name, part) for part in node.body if isinstance(part, ast.FunctionDef))
    return found


def run_by_operators():
    """All operators, properties, __eq__, __len__ and the like, and all that they call, by whatever names."""
    own = functions()
    free = ("__init__", "__call__", "__iter__", "__enter__", "__exit__", "__setitem__")
    found = [row for row in own if row[2].name.startswith("__") and row[2].name not in free
             or any(is_name(part, ("property",)) for part in row[2].decorator_list)]
    for _, _, node in found:
        for call in [part for part in ast.walk(node) if isinstance(part, ast.Call)]:
            name = call.func.attr if isinstance(call.func, ast.Attribute) else call.func.id
            found.extend(row for row in own if row not in found and (
                row[2].name == name or row[1] == name and row[2].name == "__init__"))
    return found


def stored_names():
    """The names of all attributes that are assigned anywhere."""
    return {node.attr for _, node in nodes() if isinstance(node, ast.Attribute) and isinstance(node.ctx, ast.Store)}


def is_created(value):
    """Whether what a name is assigned is surely a list, dict or set that was created on the spot."""
    created = (ast.List, ast.ListComp, ast.Dict, ast.DictComp)
    return isinstance(value, created) or is_call_of(value, ("list", "dict", "set", "sorted"))


def is_stored(node):
    """Whether a node is a name that is assigned."""
    return isinstance(node, ast.Name) and isinstance(node.ctx, ast.Store)


def is_name(node, names):
    """Whether a node is one of some names."""
    return isinstance(node, ast.Name) and node.id in names


def is_call_of(node, names):
    """Whether a node is a call of one of the builtins."""
    return isinstance(node, ast.Call) and isinstance(node.func, ast.Name) and node.func.id in names


class LanguageTest(unittest.TestCase):
    def test_files(self):
        for name in files():
            self.assertRegex(name, r"^[a-z_]+\.py$")
            text = text_of(name)
            self.assertTrue(all(sign == "\n" or " " <= sign <= "~" for sign in text), name)
            self.assertLessEqual(len(text.splitlines()), 399, name)
            self.assertLessEqual(max(len(line) for line in text.splitlines()), 120, name)
            for word in ("(" + "type)", "Meta", "metaclass="):
                self.assertNotIn(word, text)

    def test_functions_are_short(self):
        for name, node in nodes():
            if isinstance(node, ast.FunctionDef):
                self.assertLessEqual(node.end_lineno - node.lineno + 1, 40, (name, node.name))

    def test_imports(self):
        for name, node in nodes():
            if isinstance(node, ast.ImportFrom):
                if node.module in LIBRARY:
                    defined = LIBRARY[node.module].split()
                else:
                    self.assertRegex(node.module, r"^standinparts\.[a-z]+$")
                    defined = [getattr(made, "name", None) or made.targets[0].id
                               for made in ast.parse(text_of(node.module.split(".")[1] + ".py")).body
                               if isinstance(made, (ast.FunctionDef, ast.ClassDef, ast.Assign))]
                for alias in node.names:
                    self.assertIn(alias.name, defined)
                    self.assertIsNone(alias.asname)

    def test_no_barred_statements(self):
        for name, node in nodes():
            self.assertNotIsInstance(node, BARRED, (name, getattr(node, "lineno", 0)))
            if isinstance(node, ast.Compare) and any(isinstance(op, (ast.Is, ast.IsNot)) for op in node.ops):
                self.assertIsInstance(node.comparators[0], ast.Constant, name)

    def test_builtins(self):
        for name, node in nodes():
            # A doctest may have left a value at the name _ there.
            if isinstance(node, ast.Name) and node.id != "_" and hasattr(builtins, node.id):
                self.assertIn(node.id, BUILTINS, name)
                self.assertIsInstance(node.ctx, ast.Load, name)
            if isinstance(node, ast.arg):
                self.assertFalse(hasattr(builtins, node.arg), (name, node.arg))

    def test_methods_and_names(self):
        own = {node.name for _, node in nodes() if isinstance(node, ast.FunctionDef)}
        for name, node in nodes():
            if isinstance(node, ast.Call) and isinstance(node.func, ast.Attribute):
                self.assertIn(node.func.attr, METHODS | own, name)
            if isinstance(node, (ast.FunctionDef, ast.ClassDef)) and node.name.startswith("__"):
                self.assertIn(node.name.strip("_"), SPECIAL, name)
            if isinstance(node, ast.Attribute):
                self.assertFalse(node.attr.startswith("__"), name)
            if isinstance(node, (ast.FunctionDef, ast.ClassDef)):
                for decorator in node.decorator_list:
                    self.assertRegex(ast.unparse(decorator), r"^(property|staticmethod|classmethod|[a-z_]+\.setter)$")

    def test_what_operators_run_calls_nothing_that_is_held_or_passed(self):
        stored = stored_names()
        self.assertTrue({"index", "number", "kind"} <= stored)
        for name, _, node in run_by_operators():
            locals_ = {part.arg for part in ast.walk(node) if isinstance(part, ast.arg)}
            locals_ |= {part.id for part in ast.walk(node) if is_stored(part)}
            for call in [part for part in ast.walk(node) if isinstance(part, ast.Call)]:
                place = (name, node.name, call.lineno)
                self.assertIsInstance(call.func, (ast.Name, ast.Attribute), place)
                if isinstance(call.func, ast.Attribute):
                    self.assertNotIn(call.func.attr, stored, place)
                else:
                    self.assertNotIn(call.func.id, locals_, place)

    def test_what_operators_run_changes_only_what_it_created(self):
        names = {row[2].name for row in run_by_operators()}
        self.assertTrue({"__le__", "demands_on", "through", "check_places"} <= names)
        for name, _, node in run_by_operators():
            assigned = {}
            for part in ast.walk(node):
                if isinstance(part, ast.Assign) and isinstance(part.targets[0], ast.Name):
                    assigned.setdefault(part.targets[0].id, []).append(part.value)
            for part in ast.walk(node):
                changed = None
                if isinstance(part, ast.Subscript) and not isinstance(part.ctx, ast.Load):
                    changed = part.value
                if isinstance(part, ast.Call) and isinstance(part.func, ast.Attribute) and part.func.attr in CHANGING:
                    changed = part.func.value
                if isinstance(part, ast.Attribute) and not isinstance(part.ctx, ast.Load):
                    self.assertEqual((node.name, part.value.id), ("__init__", "self"), (name, part.lineno))
                if changed is not None:
                    place = (name, node.name, part.lineno)
                    self.assertIsInstance(changed, ast.Name, place)
                    self.assertTrue(all(is_created(value) for value in assigned.get(changed.id, [None])), place)

    def test_what_stands_at_the_end_of_a_try_or_a_with_only_assigns(self):
        found = 0
        for name, node in nodes():
            rows = node.finalbody if isinstance(node, ast.Try) else []
            if isinstance(node, ast.FunctionDef) and node.name == "__exit__":
                rows = node.body
            for row in rows:
                found += 1
                self.assertIsInstance(row, ast.Assign, (name, row.lineno))
                self.assertIsInstance(row.value, (ast.Name, ast.Attribute), (name, row.lineno))
                for target in row.targets:
                    self.assertIsInstance(target, (ast.Name, ast.Attribute), (name, row.lineno))
        self.assertGreater(found, 0)

    def test_errors_that_are_caught_are_own_ones(self):
        own = {node.name for node in ast.parse(text_of("errors.py")).body if isinstance(node, ast.ClassDef)}
        for name, node in nodes():
            if isinstance(node, ast.ExceptHandler):
                self.assertTrue(is_name(node.type, own), (name, node.lineno))
            if isinstance(node, ast.Raise) and isinstance(node.exc, ast.Call):
                self.assertTrue(is_name(node.exc.func, own | {"TypeError"}), (name, node.lineno))

    def test_lists_instead_of_generator_expressions(self):
        # Some classes have an __eq__.
        for name, node in nodes():
            if is_call_of(node, ("any", "all", "min", "max", "sum", "sorted")):
                self.assertNotIsInstance(node.args[0], ast.GeneratorExp, (name, node.lineno))

    def test_what_is_ordered_is_plain(self):
        # Some classes have an order, so that only numbers and strings, and sets, may be sorted.
        for name, node in nodes():
            if is_call_of(node, ("sorted", "min", "max")):
                given = [part.elt if isinstance(part, ast.ListComp) else part for part in node.args]
                plain = [part for part in given
                         if is_call_of(part, ("set", "int", "str", "len", "range")) or isinstance(part, ast.Constant)]
                keyed = any(word.arg == "key" for word in node.keywords)
                self.assertTrue(len(plain) > 0 or keyed, (name, node.lineno))

    def test_sets_are_sorted_or_stored_once(self):
        for name, node in nodes():
            if isinstance(node, ast.FunctionDef):
                stored = [part for part in ast.walk(node)
                          if isinstance(part, ast.Assign) and is_call_of(part.value, ("set",))]
                within = [part.args[0] for part in ast.walk(node) if is_call_of(part, ("sorted", "len"))]
                calls = [part for part in ast.walk(node) if is_call_of(part, ("set",))]
                allowed = [part.value for part in stored] + within
                self.assertTrue(all(part in allowed for part in calls), (name, node.name))


if __name__ == "__main__":
    unittest.main()

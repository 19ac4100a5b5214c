"""The rules of LANGUAGE.md that can be seen in the syntax tree of a file."""

import ast
import builtins
import functools
import os
import re
import unittest

import nearseats

FOLDER = os.path.dirname(nearseats.__file__)
ALLOWED_BUILTINS = set(
    "len range enumerate zip min max sum abs sorted reversed int str bool bytes list tuple dict set frozenset "
    "isinstance ord repr any all divmod pow getattr hasattr setattr iter next map type super property staticmethod "
    "classmethod Exception ValueError TypeError KeyError IndexError LookupError ZeroDivisionError ArithmeticError "
    "OverflowError RuntimeError NotImplementedError AttributeError StopIteration NotImplemented".split())
ALLOWED_METHODS = set(
    "append clear copy count endswith extend find get index insert isalnum isalpha isdigit islower isspace isupper "
    "items join keys ljust lower lstrip partition pop remove replace reverse rfind rjust rpartition rsplit rstrip "
    "setdefault split splitlines startswith strip update upper values zfill bit_length add discard".split())
ALLOWED_DUNDERS = set("__init__ __eq__ __repr__ __len__ __iter__ __add__ __contains__ __getitem__ __bool__".split())
LIBRARY = {"heapq": {"heappush", "heappop"}, "math": {"gcd", "lcm"}, "itertools": {"product", "combinations"}}
BARRED_WORDS = ("type", "typing", "enum", "Enum", "Flag", "Generic", "Protocol", "ABC", "namedtuple", "NamedTuple",
                "open", "input", "law", "register", "elements", "mro", "metaclass", "Meta")
# In a package with own __eq__ these take no generator expression.
WANT_LISTS = ("any", "all", "min", "max", "sum", "sorted", "len")


def sources():
    for name in sorted(os.listdir(FOLDER)):
        if name != "__pycache__":
            with open(os.path.join(FOLDER, name), encoding="utf-8") as file:
                yield name, file.read()


@functools.cache
def trees():
    return [(name, ast.parse(text)) for name, text in sources()]


def nodes(kind):
    for name, tree in trees():
        for node in ast.walk(tree):
            if isinstance(node, kind):
                yield f"{name}:{getattr(node, 'lineno', 0)}", node


def own_names():
    return {node.name for _, node in nodes((ast.FunctionDef, ast.ClassDef))}


def bound_names(node):
    if isinstance(node, ast.Name) and not isinstance(node.ctx, ast.Load):
        return [node.id]
    if isinstance(node, ast.arg):
        return [node.arg]
    return [node.name] if isinstance(node, (ast.FunctionDef, ast.ClassDef)) else []


def is_quiet(node):
    """Whether a method is a property, or one that an operator or a builtin calls."""
    called = node.name.startswith("__") and node.name not in ("__init__", "__iter__")
    return called or any(isinstance(word, ast.Name) and word.id == "property" for word in node.decorator_list)


def changed_bases(node):
    """What is changed in a function: the objects of its assigned items and attributes, and of changing methods."""
    found = []
    for part in ast.walk(node):
        if isinstance(part, (ast.Attribute, ast.Subscript)) and not isinstance(part.ctx, ast.Load):
            found.append(part.value)
        elif isinstance(part, ast.Call) and isinstance(part.func, ast.Attribute) and part.func.attr in (
                "append", "pop", "extend", "insert", "remove", "clear", "update", "setdefault", "add", "discard"):
            found.append(part.func.value)
    return found


def is_made_here(node, name):
    """Whether a local variable is only ever assigned a new list, dict or set."""
    made = [part.value for part in ast.walk(node) if isinstance(part, ast.Assign)
            and any(isinstance(target, ast.Name) and target.id == name for target in part.targets)]
    kinds = (ast.List, ast.Dict, ast.ListComp, ast.DictComp, ast.BinOp)
    return bool(made) and all(isinstance(value, kinds) or getattr(getattr(value, "func", None), "id", "") in (
        "list", "dict", "set", "sorted") for value in made)


class LanguageTest(unittest.TestCase):
    def test_files(self):
        for name, text in sources():
            self.assertRegex(name, r"^[a-z_][a-z0-9_]*\.py$")
            self.assertLessEqual(text.count("\n"), 399, name)
            self.assertRegex(text, r"^[ -~\n]*$", name)
            for line in text.split("\n"):
                self.assertLessEqual(len(line), 120, f"{name}: {line}")

    def test_sizes_of_functions(self):
        for place, node in nodes(ast.FunctionDef):
            self.assertLessEqual(node.end_lineno - node.lineno + 1, 40, place)

    def test_kinds_of_statements_and_expressions(self):
        barred = (ast.AsyncFunctionDef, ast.AsyncFor, ast.AsyncWith, ast.Await, ast.Import, ast.Div, ast.MatMult)
        for place, _ in nodes(barred):
            self.fail(place)
        for place, node in nodes(ast.Constant):
            self.assertNotIsInstance(node.value, (float, complex, bytes), place)

    def test_module_level(self):
        allowed = (ast.ImportFrom, ast.FunctionDef, ast.ClassDef, ast.Assign, ast.Expr)
        for name, tree in trees():
            bound = []
            for at, node in enumerate(tree.body):
                self.assertIsInstance(node, allowed, name)
                self.assertTrue(at == 0 or not isinstance(node, ast.Expr), name)
                if isinstance(node, ast.Assign):
                    self.assertIsInstance(node.targets[0], ast.Name)
                    ast.literal_eval(node.value)
                    bound.append(node.targets[0].id)
                elif isinstance(node, ast.ImportFrom):
                    bound.extend(alias.name for alias in node.names)
                elif not isinstance(node, ast.Expr):
                    bound.append(node.name)
            self.assertEqual(len(bound), len(set(bound)), name)

    def test_imports(self):
        needs = {}
        for name, tree in trees():
            found = [node for node in ast.walk(tree) if isinstance(node, ast.ImportFrom)]
            self.assertTrue(all(node in tree.body and node.level == 0 for node in found), name)
            for node in [node for node in found if node.module in LIBRARY]:
                self.assertTrue({alias.name for alias in node.names} <= LIBRARY[node.module], name)
            found = [node for node in found if node.module not in LIBRARY]
            for node in found:
                self.assertRegex(node.module, r"^nearseats\.[a-z]+$", name)
                self.assertTrue(all(alias.asname is None and alias.name != "*" for alias in node.names), name)
                wanted = dict(trees())[node.module.split(".")[1] + ".py"]
                defined = [word for part in wanted.body for word in
                           ([part.name] if hasattr(part, "name") else
                            [part.targets[0].id] if isinstance(part, ast.Assign) else [])]
                for alias in node.names:
                    self.assertIn(alias.name, defined, name)
            needs[name] = [node.module.split(".")[1] + ".py" for node in found]
        while needs:
            free = [name for name in needs if not any(other in needs for other in needs[name])]
            self.assertTrue(free, f"import each other: {sorted(needs)}")
            needs = {name: needs[name] for name in needs if name not in free}

    def test_imported_names_are_used_and_not_bound_again(self):
        for name, tree in trees():
            imported = [alias.name for node in tree.body if isinstance(node, ast.ImportFrom) for alias in node.names]
            classes = [node.name for node in tree.body if isinstance(node, ast.ClassDef)]
            used = [node.id for node in ast.walk(tree) if isinstance(node, ast.Name)]
            bound = [word for node in ast.walk(tree) for word in bound_names(node)]
            for word in imported:
                self.assertIn(word, used, name)
                self.assertNotIn(word, bound, name)
            for word in classes:
                self.assertEqual(bound.count(word), 1, name)

    def test_builtins(self):
        for place, node in nodes(ast.Name):
            if isinstance(node.ctx, ast.Load) and hasattr(builtins, node.id):
                self.assertIn(node.id, ALLOWED_BUILTINS, place)
        for name, tree in trees():
            for node in ast.walk(tree):
                # A doctest that ran before leaves its last value as the builtin _.
                for word in [word for word in bound_names(node) if not word.startswith("__") and word != "_"]:
                    self.assertFalse(hasattr(builtins, word), f"{name}: {word}")

    def test_methods(self):
        allowed = ALLOWED_METHODS | own_names() | {"__init__"}
        for place, node in nodes(ast.Call):
            if isinstance(node.func, ast.Attribute):
                self.assertIn(node.func.attr, allowed, place)

    def test_definitions(self):
        allowed = {"property", "staticmethod"}
        for place, node in nodes(ast.FunctionDef):
            self.assertTrue({word.id for word in node.decorator_list} <= allowed, place)
            if node.name.startswith("__"):
                self.assertIn(node.name, ALLOWED_DUNDERS, place)
        for place, node in nodes(ast.ClassDef):
            self.assertEqual(node.decorator_list, [], place)
            methods = [part.name for part in node.body if isinstance(part, ast.FunctionDef)]
            self.assertEqual(len(methods), len(set(methods)), place)
            self.assertTrue("__getitem__" not in methods or "__iter__" in methods, place)
            stored = {part.attr for part in ast.walk(node)
                      if isinstance(part, ast.Attribute) and isinstance(part.ctx, ast.Store)}
            self.assertEqual(stored & set(methods), set(), place)

    def test_no_name_is_a_method_and_an_attribute(self):
        classes = [part for _, node in nodes(ast.ClassDef) for part in node.body]
        methods = {part.name for part in classes if isinstance(part, ast.FunctionDef)}
        stored = {node.attr for _, node in nodes(ast.Attribute) if isinstance(node.ctx, ast.Store)}
        self.assertEqual(methods & stored, set())
        names = [part.name for part in classes if isinstance(part, ast.FunctionDef) and part.decorator_list]
        others = [part.name for part in classes if isinstance(part, ast.FunctionDef) and not part.decorator_list]
        self.assertEqual(set(names) & set(others), set())
        for word in methods | stored:
            kinds = (str, int, list, dict, set, bytes, tuple)
            self.assertFalse(not word.startswith("__") and any(hasattr(kind, word) for kind in kinds), word)

    def test_generator_expressions_and_sets(self):
        for place, node in nodes(ast.Call):
            if isinstance(node.func, ast.Name) and node.func.id in WANT_LISTS:
                self.assertFalse(any(isinstance(part, ast.GeneratorExp) for part in node.args), place)
            self.assertFalse(isinstance(node.func, ast.Attribute) and node.func.attr == "sort", place)
        for place, node in nodes((ast.For, ast.comprehension)):
            called = node.iter.func if isinstance(node.iter, ast.Call) else None
            self.assertFalse(isinstance(called, ast.Name) and called.id == "set", place)

    def test_generators(self):
        whole = [node for _, tree in trees() for node in ast.walk(tree)]
        functions = [node for node in whole if isinstance(node, ast.FunctionDef)]
        names = [node.name for node in functions]
        found = [node.name for node in functions if any(isinstance(part, ast.Yield) for part in ast.walk(node))]
        self.assertIn("complete_sets", found)
        self.assertEqual([name for name in found if names.count(name) > 1], [])
        iterated = [node.iter for node in whole if isinstance(node, (ast.For, ast.comprehension))]
        calls = [node for node in whole if isinstance(node, ast.Call) and getattr(node.func, "id", "") in found]
        self.assertEqual([ast.unparse(node) for node in calls if node not in iterated], [])
        used = [node for node in whole if isinstance(node, ast.Name) and node.id in found]
        self.assertEqual([node.id for node in used if node not in [call.func for call in calls]], [])

    def test_properties_and_shown_values_change_nothing(self):
        for place, node in nodes(ast.FunctionDef):
            shown = node.name.startswith("__") and node.name not in ("__init__", "__iter__")
            if shown or any(isinstance(word, ast.Name) and word.id == "property" for word in node.decorator_list):
                for part in ast.walk(node):
                    self.assertFalse(isinstance(part, (ast.Attribute, ast.Subscript))
                                     and not isinstance(part.ctx, ast.Load), place)

    def test_what_properties_and_shown_values_reach_changes_nothing(self):
        functions = [node for _, node in nodes(ast.FunctionDef)]
        found, waiting = {}, [node for node in functions if is_quiet(node)]
        while waiting:
            node = waiting.pop()
            if id(node) not in found:
                found[id(node)] = node
                called = {getattr(part.func, "attr", getattr(part.func, "id", "")) for part in ast.walk(node)
                          if isinstance(part, ast.Call)}
                waiting.extend(other for other in functions if other.name in called)
        self.assertGreater(len(found), 80)
        for node in found.values():
            for base in changed_bases(node):
                self.assertTrue(isinstance(base, ast.Name) and is_made_here(node, base.id), f"{node.name} line {node.lineno}")

    def test_identity(self):
        for place, node in nodes(ast.Compare):
            for sign, other in zip(node.ops, node.comparators):
                if isinstance(sign, (ast.Is, ast.IsNot)):
                    self.assertTrue(isinstance(other, ast.Constant) and other.value in (None, True, False), place)

    def test_words(self):
        for name, tree in trees():
            code = ast.unparse(tree)
            for node in ast.walk(tree):
                if isinstance(node, ast.Constant) and isinstance(node.value, str):
                    self.assertNotIn("%", node.value, name)
                    self.assertFalse(node.value.startswith("__") or node.value.endswith("._"), name)
                if isinstance(node, ast.Attribute):
                    self.assertNotIn(node.attr, BARRED_WORDS, name)
            for word in BARRED_WORDS:
                found = re.search(rf"(?<![\w\"'-]){word}(?![\w\"'-])", strip_strings(code))
                self.assertIsNone(found, f"{name}: {word}")


def strip_strings(code):
    """The code without its strings and docstrings."""
    return re.sub(r"\"\"\".*?\"\"\"|'[^'\n]*'|\"[^\"\n]*\"", "''", code, flags=re.DOTALL)


if __name__ == "__main__":
    unittest.main()

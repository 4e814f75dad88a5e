"""Those rules of LANGUAGE.md that can be looked at in the files of the package one by one."""

import ast
import builtins
import re
import unittest
from pathlib import Path

PACKAGE = Path(__file__).resolve().parent.parent / "ownrights"
FILES = sorted(PACKAGE.glob("*.py"))
ERRORS = {
    "Exception", "ValueError", "TypeError", "KeyError", "IndexError", "LookupError", "ZeroDivisionError",
    "ArithmeticError", "OverflowError", "RuntimeError", "NotImplementedError", "AttributeError", "StopIteration",
}
BUILTINS = ERRORS | {
    "len", "range", "enumerate", "zip", "min", "max", "sum", "abs", "sorted", "reversed", "int", "str", "bool", "list",
    "tuple", "dict", "set", "isinstance", "ord", "repr", "any", "all", "divmod", "NotImplemented", "property",
    "staticmethod", "classmethod", "iter", "next", "map", "super",
}
METHODS = set(
    "append clear copy count endswith extend find get index insert isalnum isalpha isdigit islower isspace isupper "
    "items join keys ljust lower lstrip partition pop remove replace reverse rfind rjust rpartition rsplit rstrip "
    "setdefault split splitlines startswith strip update upper values zfill bit_length add discard".split())
STATEMENTS = (
    ast.Assign, ast.AugAssign, ast.If, ast.While, ast.For, ast.Return, ast.Break, ast.Continue, ast.Pass, ast.Raise,
    ast.Assert, ast.Delete, ast.Nonlocal, ast.With, ast.Expr, ast.Try, ast.FunctionDef, ast.ClassDef, ast.ImportFrom,
    ast.Match,
)
CHANGING = {"append", "clear", "extend", "insert", "pop", "remove", "reverse", "setdefault", "update", "sort", "add", "discard"}
VIEWS = {"items", "keys", "values"}
WALKERS = {"enumerate", "zip", "reversed", "iter"}
UNUSED = {"register", "mro", "elements", "open", "input", "law", "version_info", "with_traceback", "add_note"}
BARRED = re.compile(
    r"\b(type|typing|typing_extensions|enum|Enum|IntEnum|StrEnum|Flag|IntFlag|Generic|Protocol|ABC|ABCMeta|namedtuple|"
    r"NamedTuple|TypedDict|TYPE_CHECKING|abstractmethod)\b|dataclass|overload|contextmanager|_wall|_WallAttr|Meta")


def tree_of(path):
    return ast.parse(path.read_text(encoding="utf-8"))


def functions_in(tree):
    return [node for node in ast.walk(tree) if isinstance(node, ast.FunctionDef)]


def defined_in(tree):
    """The functions, classes and names at module level."""
    names = {node.name for node in tree.body if isinstance(node, (ast.FunctionDef, ast.ClassDef))}
    return names | {node.targets[0].id for node in tree.body if isinstance(node, ast.Assign)}


def imported_in(tree):
    return {alias.name: node.module for node in tree.body if isinstance(node, ast.ImportFrom) for alias in node.names}


def bound_in(function):
    """The parameters and the local names of a function."""
    names = {argument.arg for argument in ast.walk(function.args) if isinstance(argument, ast.arg)}
    return names | {node.id for node in ast.walk(function) if isinstance(node, ast.Name) and
                    isinstance(node.ctx, ast.Store)}


def held_by(value):
    """The names and attributes whose very list or dict an expression gives, also as a view, a zip or a choice."""
    if isinstance(value, (ast.Name, ast.Attribute)):
        return {ast.unparse(value)}
    if isinstance(value, ast.Call) and isinstance(value.func, ast.Attribute) and value.func.attr in VIEWS:
        return held_by(value.func.value)
    inner = []
    if isinstance(value, ast.IfExp):
        inner = [value.body, value.orelse]
    elif isinstance(value, ast.BoolOp):
        inner = value.values
    elif isinstance(value, ast.NamedExpr):
        inner = [value.target, value.value]
    elif isinstance(value, ast.Call) and isinstance(value.func, ast.Name) and value.func.id in WALKERS:
        inner = value.args
    return {name for one in inner for name in held_by(one)}


def changed_in(nodes):
    """The names and attributes whose list or dict is changed in some nodes."""
    found = set()
    for node in [inner for node in nodes for inner in ast.walk(node)]:
        if isinstance(node, ast.Call) and isinstance(node.func, ast.Attribute) and node.func.attr in CHANGING:
            found |= held_by(node.func.value)
        if isinstance(node, ast.Subscript) and isinstance(node.ctx, (ast.Store, ast.Del)):
            found |= held_by(node.value)
        if isinstance(node, ast.AugAssign):
            found |= held_by(node.target)
    return found


def given_names(function):
    """The pairs (target, name) of a function, where an assignment gives the target what the name holds."""
    pairs = []
    for node in ast.walk(function):
        if isinstance(node, ast.NamedExpr):
            pairs.append((node.target, node.value))
        for target in node.targets if isinstance(node, ast.Assign) else []:
            many = isinstance(target, ast.Tuple) and isinstance(node.value, ast.Tuple)
            pairs += zip(target.elts, node.value.elts) if many else [(target, node.value)]
    return [(one, other) for target, value in pairs for one in held_by(target) for other in held_by(value)]


def walked_and_changed(function):
    """The names that are changed inside of a loop of a function which walks them, be it by another name that,
    anywhere in the function, is given them or gives them."""
    pairs, found = given_names(function), set()
    for node in ast.walk(function):
        walked, inside = set(), []
        if isinstance(node, ast.For):
            walked, inside = held_by(node.iter), node.body
        elif isinstance(node, (ast.ListComp, ast.DictComp, ast.SetComp, ast.GeneratorExp)):
            walked, inside = {name for one in node.generators for name in held_by(one.iter)}, [node]
        for _ in pairs:
            walked |= {name for pair in pairs for name in pair if set(pair) & walked}
        found |= walked & changed_in(inside)
    return found


class LanguageTest(unittest.TestCase):
    def each(self):
        for path in FILES:
            with self.subTest(path.name):
                yield path, tree_of(path)

    def test_there_are_only_files_with_plain_names(self):
        names = [path.name for path in PACKAGE.iterdir() if path.name != "__pycache__"]
        self.assertEqual(sorted(names), [path.name for path in FILES])
        for name in names:
            self.assertRegex(name, r"^[a-z_]+\.py$")
            self.assertNotIn(name[:-3], dir(builtins))

    def test_characters_and_sizes(self):
        for path, tree in self.each():
            text = path.read_text(encoding="utf-8")
            self.assertEqual(re.findall(r"[^ -~\n]", text), [])
            lines = text.split("\n")
            self.assertLessEqual(len(lines), 400)
            self.assertLessEqual(max(len(line) for line in lines), 120)
            for function in functions_in(tree):
                self.assertLessEqual(function.end_lineno - function.lineno + 1, 40, function.name)

    def test_words(self):
        for path, tree in self.each():
            self.assertIsNone(BARRED.search(path.read_text(encoding="utf-8")))
            for node in ast.walk(tree):
                if isinstance(node, ast.Constant) and isinstance(node.value, str):
                    self.assertNotIn("%", node.value)
                    self.assertFalse(node.value.endswith(("._", ".__")))

    def test_imports(self):
        needed = {}
        for path, tree in self.each():
            self.assertEqual([node for node in ast.walk(tree) if isinstance(node, ast.Import)], [])
            needed[path.stem] = set()
            for name, module in imported_in(tree).items():
                self.assertTrue(module.startswith("ownrights."), module)
                self.assertIn(name, defined_in(tree_of(PACKAGE / f"{module.split('.')[1]}.py")))
                needed[path.stem].add(module.split(".")[1])
        while needed:
            free = [name for name, others in needed.items() if not others]
            self.assertTrue(free, f"these import from each other: {sorted(needed)}")
            needed = {name: others - set(free) for name, others in needed.items() if others}

    def test_module_level(self):
        for _, tree in self.each():
            for at, node in enumerate(tree.body):
                docstring = at == 0 and isinstance(node, ast.Expr) and isinstance(node.value, ast.Constant)
                self.assertTrue(docstring or isinstance(node, (ast.ImportFrom, ast.FunctionDef, ast.ClassDef, ast.Assign)))
                if isinstance(node, ast.Assign):
                    self.assertTrue(self.is_table(tree, node) or ast.literal_eval(node.value) is not None)

    def is_table(self, tree, assignment):
        """Whether it is a dict of functions that are defined above it in the file."""
        if not isinstance(assignment.value, ast.Dict) or not isinstance(assignment.value.values[0], ast.Name):
            return False
        above = {node.name for node in tree.body if isinstance(node, ast.FunctionDef) and node.lineno < assignment.lineno}
        self.assertLessEqual({value.id for value in assignment.value.values}, above)
        return all(isinstance(key, ast.Constant) for key in assignment.value.keys)

    def test_statements_and_expressions(self):
        barred = (ast.Lambda, ast.ListComp)
        for _, tree in self.each():
            for node in ast.walk(tree):
                if isinstance(node, ast.stmt):
                    self.assertIsInstance(node, STATEMENTS)
                self.assertNotIsInstance(node, (ast.Div, ast.GeneratorExp, ast.Await))
                if isinstance(node, ast.Compare):
                    for sign, value in zip(node.ops, node.comparators):
                        if isinstance(sign, (ast.Is, ast.IsNot)):
                            self.assertIsInstance(value, ast.Constant)
            for node in tree.body:
                if isinstance(node, ast.Assign):
                    self.assertEqual([inner for inner in ast.walk(node) if isinstance(inner, barred)], [])

    def test_builtins_and_methods(self):
        own = {function.name for path in FILES for function in functions_in(tree_of(path))}
        for _, tree in self.each():
            for node in ast.walk(tree):
                if isinstance(node, ast.Name) and node.id in dir(builtins):
                    self.assertIn(node.id, BUILTINS)
                    self.assertIsInstance(node.ctx, ast.Load)
                if isinstance(node, ast.Call) and isinstance(node.func, ast.Attribute):
                    self.assertIn(node.func.attr, METHODS | own)
                if isinstance(node, ast.Call) and isinstance(node.func, ast.Name) and node.func.id in BUILTINS:
                    self.assertEqual([word.arg for word in node.keywords if word.arg not in ("key", "reverse", "default",
                                                                                            "start")], [])

    def test_names(self):
        for _, tree in self.each():
            taken = set(imported_in(tree)) | {node.name for node in tree.body if isinstance(node, ast.ClassDef)}
            self.assertEqual(taken & defined_in(tree) & set(imported_in(tree)), set())
            for function in functions_in(tree):
                names = bound_in(function)
                self.assertEqual(names & (taken | set(dir(builtins)) | UNUSED), set(), function.name)
                self.assertEqual([name for name in names if name.startswith("__")], [])
            for name in defined_in(tree):
                self.assertNotIn(name, set(dir(builtins)) | UNUSED)

    def test_stars_in_calls_stand_before_names(self):
        for _, tree in self.each():
            for node in ast.walk(tree):
                if isinstance(node, ast.Call):
                    stars = [argument.value for argument in node.args if isinstance(argument, ast.Starred)]
                    self.assertEqual([star for star in stars if not isinstance(star, ast.Name)], [])

    def test_generators_are_iterated_at_once(self):
        names = {}
        for _, tree in self.each():
            for function in functions_in(tree):
                names[function.name] = names.get(function.name, 0) + 1
        generators = {function.name for path in FILES for function in functions_in(tree_of(path))
                      if any(isinstance(node, (ast.Yield, ast.YieldFrom)) for node in ast.walk(function))}
        self.assertEqual(generators, {"good_states", "parts"})
        # Only the two classes for which DOC.md asks for it have a generator of one name.
        self.assertEqual([names["good_states"], names["parts"]], [1, 2])
        for _, tree in self.each():
            held = [node.iter for node in ast.walk(tree) if isinstance(node, (ast.For, ast.comprehension))]
            held += [node.args[0] for node in ast.walk(tree) if isinstance(node, ast.Call) and node.args and
                     isinstance(node.func, ast.Name) and node.func.id in ("list", "tuple", "sorted")]
            for node in ast.walk(tree):
                if isinstance(node, ast.Call) and isinstance(node.func, ast.Name) and node.func.id in generators:
                    self.assertTrue(any(node is value for value in held))
                    self.assertEqual([value for value in node.args if not isinstance(value, ast.Name)], [])
            calls = [node.func for node in ast.walk(tree) if isinstance(node, ast.Call)]
            for node in ast.walk(tree):
                if isinstance(node, ast.Name) and node.id in generators:
                    self.assertTrue(any(node is value for value in calls))

    def test_stored_sets_stay_where_they_are(self):
        for _, tree in self.each():
            for function in functions_in(tree):
                stored = [node.targets[0].id for node in ast.walk(function) if isinstance(node, ast.Assign) and
                          isinstance(node.value, ast.Call) and isinstance(node.value.func, ast.Name) and
                          node.value.func.id == "set"]
                self.assertEqual(len(stored), len(set(stored)))
                tested = [value for node in ast.walk(function) if isinstance(node, ast.Compare) for value in node.comparators]
                for node in ast.walk(function):
                    if isinstance(node, ast.Name) and node.id in stored and isinstance(node.ctx, ast.Load):
                        self.assertTrue(any(node is value for value in tested), (function.name, node.id))

    def test_names_of_methods_and_of_attributes(self):
        # No attribute has the name of a method, a property or a class value of any class.
        methods, stored = {}, {}
        for path, tree in self.each():
            for own in [node for node in tree.body if isinstance(node, ast.ClassDef)]:
                names = [node.name for node in own.body if isinstance(node, ast.FunctionDef)]
                self.assertEqual(len(names), len(set(names)), own.name)
                names += [node.targets[0].id for node in own.body if isinstance(node, ast.Assign)]
                methods.update({name: own.name for name in names})
            stored.update({node.attr: path.name for node in ast.walk(tree)
                           if isinstance(node, ast.Attribute) and isinstance(node.ctx, ast.Store)})
        self.assertEqual(set(methods) & set(stored), set())
        self.assertEqual({name for name in methods if name in METHODS}, set())
        read = {node.attr for path in FILES for node in ast.walk(tree_of(path)) if isinstance(node, ast.Attribute)}
        self.assertEqual(read - set(methods) - set(stored) - METHODS, set())

    def test_what_a_loop_walks_is_not_changed_in_it(self):
        rows = [(path.name, function.name, sorted(walked_and_changed(function)))
                for path in FILES for function in functions_in(tree_of(path))]
        self.assertEqual([row for row in rows if row[2]], [])

    def test_double_underscore_methods(self):
        for path, tree in self.each():
            for function in functions_in(tree):
                returned = [node.value for node in ast.walk(function) if isinstance(node, ast.Return)]
                if function.name == "__init__":
                    self.assertEqual(returned, [])
                if function.name in ("__len__", "__str__"):
                    self.assertIsInstance(function.body[-1], ast.Return)
                for value in returned if function.name == "__len__" else []:
                    self.assertEqual(value.func.id, "len")
                for value in returned if function.name == "__str__" else []:
                    joins = isinstance(value, ast.Call) and isinstance(value.func, ast.Attribute) and value.func.attr == "join"
                    text = isinstance(value, ast.Call) and isinstance(value.func, ast.Name) and value.func.id == "str"
                    self.assertTrue(joins or text or isinstance(value.value, str))
                if function.name == "__iter__":
                    self.assertEqual(len(function.body), 1)

    def test_what_operators_run_changes_nothing(self):
        # From each operator and property through all that it calls, by the names.
        known = {}
        for path in FILES:
            for function in functions_in(tree_of(path)):
                known.setdefault(function.name, []).append(function)
        waiting = [function for name, found in known.items() for function in found
                   if (name.startswith("__") and name not in ("__init__", "__call__", "__iter__")) or function.decorator_list]
        seen = []
        while waiting:
            function = waiting.pop()
            if function in seen or function.name in ("__init__", "parsed"):
                continue
            seen.append(function)
            own = {node.targets[0].id for node in ast.walk(function) if isinstance(node, ast.Assign) and
                   isinstance(node.targets[0], ast.Name) and isinstance(node.value, (ast.List, ast.ListComp))}
            passed = {argument.arg for argument in function.args.args}
            for node in ast.walk(function):
                if isinstance(node, (ast.Attribute, ast.Subscript)):
                    self.assertIsInstance(node.ctx, ast.Load, function.name)
                self.assertNotIsInstance(node, (ast.AugAssign, ast.Delete))
                if isinstance(node, ast.Call) and isinstance(node.func, ast.Name):
                    self.assertNotIn(node.func.id, passed, function.name)
                    waiting += known.get(node.func.id, [])
                if isinstance(node, ast.Call) and isinstance(node.func, ast.Attribute):
                    if node.func.attr in ("append", "extend", "pop", "insert", "remove", "clear", "update", "setdefault"):
                        self.assertIn(node.func.value.id, own, function.name)
                    waiting += known.get(node.func.attr, [])
        self.assertGreater(len(seen), 40)

    def test_handlers_and_finally(self):
        for path, tree in self.each():
            for node in [node for node in ast.walk(tree) if isinstance(node, ast.Try)]:
                for handler in node.handlers:
                    self.assertIn(handler.type.id, ("RightError", "InvalidText"))
                for last in node.finalbody:
                    # An attribute is assigned a name, and nothing is counted there.
                    self.assertIsInstance(last, ast.Assign)
                    self.assertIsInstance(last.value, ast.Name)

    def test_no_annotations(self):
        for path, tree in self.each():
            for function in functions_in(tree):
                arguments = [node.annotation for node in ast.walk(function.args) if isinstance(node, ast.arg)]
                self.assertEqual([one for one in [*arguments, function.returns] if one is not None], [])

    def test_sorting_is_by_sorted(self):
        for path, tree in self.each():
            called = {node.func.attr for node in ast.walk(tree)
                      if isinstance(node, ast.Call) and isinstance(node.func, ast.Attribute)}
            self.assertNotIn("sort", called, path)


# The rows of a function that walks xs, and what of it is changed in the loop.
WALKS = (
    ("for x in xs:\n  xs.append(x)", {"xs"}),
    ("for x in xs:\n  for y in ys:\n    xs[y] = x", {"xs"}),
    ("for x in xs:\n  del xs[x]\n  return", {"xs"}),
    ("for x in xs:\n  xs += [x]", {"xs"}),
    ("for k, x in xs.items():\n  xs.setdefault(x, k)", {"xs"}),
    ("for k, (x, y) in enumerate(zip(xs, ys)):\n  ys.pop()", {"ys"}),
    ("for x in xs if k else ys or zs:\n  zs.clear()", {"zs"}),
    ("for x in self.xs:\n  self.xs.append(x)", {"self.xs"}),
    ("ys = self.xs\nfor x in ys:\n  self.xs.append(x)", {"self.xs"}),
    ("self.xs = ys = []\nfor x in ys:\n  ys.append(x)", {"ys"}),
    ("while xs:\n  ys = []\n  for x in xs:\n    ys.append(x)\n  xs = ys", {"ys"}),
    ("while xs:\n  ys = {}\n  for x in xs.items():\n    ys[x] = x\n  zs = ys\n  xs = zs", {"ys"}),
    ("while xs:\n  ys = []\n  for x in xs:\n    ys.append(x)\n  k, xs = 1, ys", {"ys"}),
    ("while xs:\n  ys = []\n  for x in xs:\n    ys.append(x)\n  xs = ys if k else zs", {"ys"}),
    ("while (xs := ys):\n  for x in xs:\n    ys.append(x)", {"ys"}),
    ("zs = [xs.pop() for x in xs]", {"xs"}),
    ("for x in list(xs):\n  xs.append(x)", set()),
    ("for k, x in list(xs.items()):\n  xs[x] = k", set()),
    ("for x in xs:\n  ys.append(x)\nxs.append(1)", set()),
    ("while xs:\n  xs.pop()", set()),
    ("while xs:\n  ys = []\n  for x in list(xs):\n    ys.append(x)\n  xs = ys", set()),
    ("while xs:\n  ys = []\n  for x in xs:\n    ys.append(x)\n  xs = list(ys)", set()),
    ("while xs:\n  xs = [x + 1 for x in xs]", set()),
)


class WalkTest(unittest.TestCase):
    """What the test of loops finds, and what it lets pass."""

    def test_rows(self):
        for rows, due in WALKS:
            body = rows.replace("\n", "\n  ")
            function = functions_in(ast.parse(f"def walk(self, xs, ys, zs, k):\n  {body}"))[0]
            self.assertEqual(walked_and_changed(function), due, rows)


if __name__ == "__main__":
    unittest.main()

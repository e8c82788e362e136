"""Tests of the form of the package: the rules of LANGUAGE.md that are plain to check."""

import ast
import builtins
import pathlib
import unittest

PACKAGE = pathlib.Path(__file__).resolve().parent.parent / "slotwise"
LIBRARY = {
    "heapq": ("heappush", "heappop", "heapify", "heapreplace", "heappushpop"),
    "math": ("gcd", "lcm", "isqrt", "comb", "perm", "factorial"),
    "itertools": (
        "product", "combinations", "permutations", "chain", "accumulate", "pairwise", "islice", "zip_longest",
    ),
    "collections": ("defaultdict",),
}
ALLOWED_BUILTINS = set(
    "len range enumerate zip min max sum abs sorted reversed int str bool bytes list tuple dict set frozenset isinstance"
    " ord repr any all divmod pow getattr hasattr setattr iter next map super property staticmethod classmethod object"
    " Exception ValueError TypeError KeyError IndexError LookupError ZeroDivisionError ArithmeticError OverflowError"
    " RuntimeError NotImplementedError AttributeError StopIteration NotImplemented".split()
)
BARRED_NODES = (ast.Global, ast.AsyncFunctionDef, ast.AsyncFor, ast.AsyncWith, ast.Await, ast.Div, ast.Import)
DECORATORS = ("property", "staticmethod", "classmethod")
BARRED_WORDS = ("_wall", "_WallAttr", "dataclass", "overload", "contextmanager")


def files():
    """The files of the package with their texts and syntax trees."""
    for path in sorted(PACKAGE.glob("*.py")):
        text = path.read_text(encoding="utf-8")
        yield path, text, ast.parse(text)


def bound_names(tree):
    """All names that a file binds in any way."""
    for node in ast.walk(tree):
        if isinstance(node, ast.Name) and isinstance(node.ctx, ast.Store):
            yield node.id
        elif isinstance(node, (ast.FunctionDef, ast.ClassDef)):
            yield node.name
        elif isinstance(node, ast.arg):
            yield node.arg
        elif isinstance(node, ast.alias):
            yield node.asname or node.name


CHANGING_METHODS = ("append", "clear", "extend", "insert", "pop", "remove", "reverse", "setdefault", "sort", "update")


def names_of_one_list(function):
    """For each name in the function the names that may stand for the same list, by plain assignments."""
    groups = {}
    for node in ast.walk(function):
        if isinstance(node, ast.Assign) and isinstance(node.value, ast.Name):
            for target in node.targets:
                if isinstance(target, ast.Name):
                    joined = groups.get(target.id, {target.id}) | groups.get(node.value.id, {node.value.id})
                    groups.update({name: joined for name in joined})
    return groups


def walked_names(node):
    """The names that a loop over this expression walks, also by enumerate, zip, reversed and choices."""
    if isinstance(node, ast.Name):
        yield node.id
    elif isinstance(node, ast.Call) and isinstance(node.func, ast.Name):
        if node.func.id in ("enumerate", "zip", "reversed"):
            for argument in node.args:
                yield from walked_names(argument)
    elif isinstance(node, ast.Call) and isinstance(node.func, ast.Attribute):
        if node.func.attr in ("items", "keys", "values"):
            yield from walked_names(node.func.value)
    elif isinstance(node, ast.IfExp):
        yield from walked_names(node.body)
        yield from walked_names(node.orelse)
    elif isinstance(node, ast.BoolOp):
        for value in node.values:
            yield from walked_names(value)


def changed_names(statements):
    """The names of what the statements change by a method, an item, a heap or `+=`."""
    for statement in statements:
        for node in ast.walk(statement):
            if isinstance(node, ast.Call) and isinstance(node.func, ast.Attribute):
                if node.func.attr in CHANGING_METHODS and isinstance(node.func.value, ast.Name):
                    yield node.func.value.id
            elif isinstance(node, ast.Call) and isinstance(node.func, ast.Name) and node.func.id in LIBRARY["heapq"]:
                yield from walked_names(node.args[0])
            elif isinstance(node, ast.Subscript) and not isinstance(node.ctx, ast.Load):
                yield from walked_names(node.value)
            elif isinstance(node, ast.AugAssign):
                yield from walked_names(node.target)


def things_of(node):
    """The names of what the expression can be, or can be an item of, if it is not made anew."""
    inner = ()
    if isinstance(node, ast.Name):
        yield node.id
    elif isinstance(node, (ast.Attribute, ast.Starred)):
        inner = (node.value,)
    elif isinstance(node, ast.Subscript) and not isinstance(node.slice, ast.Slice):
        inner = (node.value,)
    elif isinstance(node, ast.IfExp):
        inner = (node.body, node.orelse)
    elif isinstance(node, (ast.BoolOp, ast.Dict)):
        inner = node.values
    elif isinstance(node, (ast.Tuple, ast.List)):
        inner = node.elts
    elif isinstance(node, ast.Call) and isinstance(node.func, ast.Name):
        inner = node.args if node.func.id in ("enumerate", "zip", "reversed", "min", "max") else ()
    elif isinstance(node, ast.Call) and isinstance(node.func, ast.Attribute):
        if node.func.attr in ("items", "keys", "values", "get", "pop", "setdefault"):
            inner = [node.func.value] + node.args[1:]
    for part in inner:
        yield from things_of(part)


def origins_of(function):
    """For each name in the function all names of what it can be, or can be an item of, by assignments and loops."""
    pairs = []
    for node in ast.walk(function):
        if isinstance(node, ast.Assign):
            pairs.extend((target, node.value) for target in node.targets)
        elif isinstance(node, (ast.For, ast.comprehension)):
            pairs.append((node.target, node.iter))
    origins = {}
    for target, value in pairs:
        # Where an item is assigned, the whole can have what is assigned as an item.
        for name in things_of(target):
            origins.setdefault(name, {name}).update(things_of(value))
    return origins


def all_origins(origins, node):
    """The names of what the expression can be or can be an item of, directly or through other names."""
    found = set()
    pending = list(things_of(node))
    while pending:
        name = pending.pop()
        if name not in found:
            found.add(name)
            pending.extend(origins.get(name, ()))
    return found


def rows_that_get_what_they_change(function):
    """The rows in which `extend`, `update`, `+=` or `|=` can get what they change, by the form of the function."""
    origins = origins_of(function)
    for node in ast.walk(function):
        pairs = []
        if isinstance(node, ast.AugAssign) and isinstance(node.op, (ast.Add, ast.BitOr)):
            pairs = [(node.target, node.value)]
        elif isinstance(node, ast.Call) and isinstance(node.func, ast.Attribute):
            if node.func.attr in ("extend", "update"):
                pairs = [(node.func.value, argument) for argument in node.args]
        for changed, given in pairs:
            if all_origins(origins, changed) & all_origins(origins, given):
                yield node.lineno


class TestLanguage(unittest.TestCase):
    def test_the_folder_contains_only_its_files(self):
        for path in PACKAGE.iterdir():
            if path.name != "__pycache__":
                self.assertRegex(path.name, r"^[a-z_]+\.py$")

    def test_sizes_and_characters(self):
        for path, text, tree in files():
            lines = text.splitlines()
            self.assertLessEqual(len(lines), 399, path.name)
            self.assertTrue(all(len(line) <= 120 for line in lines), path.name)
            self.assertTrue(all(mark == "\n" or " " <= mark <= "~" for mark in text), path.name)
            for node in ast.walk(tree):
                if isinstance(node, ast.FunctionDef):
                    self.assertLessEqual(node.end_lineno - node.lineno + 1, 40, (path.name, node.name))

    def test_imports(self):
        for path, _, tree in files():
            for node in ast.walk(tree):
                if isinstance(node, ast.ImportFrom):
                    self.assertEqual(node.level, 0)
                    if node.module in LIBRARY:
                        self.assertTrue(all(name.name in LIBRARY[node.module] for name in node.names))
                    else:
                        self.check_own_import(node)

    def check_own_import(self, node):
        """Check that the names are defined in the very file that is imported from."""
        package, _, module = node.module.partition(".")
        self.assertEqual(package, "slotwise")
        imported = ast.parse((PACKAGE / (module + ".py")).read_text(encoding="utf-8"))
        defined = set()
        for statement in imported.body:
            if isinstance(statement, (ast.FunctionDef, ast.ClassDef)):
                defined.add(statement.name)
            elif isinstance(statement, ast.Assign):
                defined.update(target.id for target in statement.targets)
        for name in node.names:
            self.assertIsNone(name.asname)
            self.assertIn(name.name, defined)

    def test_statements_and_expressions(self):
        for path, _, tree in files():
            for node in ast.walk(tree):
                self.assertNotIsInstance(node, BARRED_NODES, (path.name, getattr(node, "lineno", 0)))
                if isinstance(node, ast.Constant) and not isinstance(node.value, (int, str, type(None))):
                    self.fail((path.name, node.value))
                if isinstance(node, ast.Constant) and isinstance(node.value, str):
                    self.assertNotIn("%", node.value)
                if isinstance(node, ast.FunctionDef):
                    for decorator in node.decorator_list:
                        self.assertTrue(ast.unparse(decorator) in DECORATORS or decorator.attr == "setter")

    def test_names(self):
        known = set(dir(builtins))
        for path, text, tree in files():
            bound = set(bound_names(tree))
            self.assertEqual(bound & known, set(), path.name)
            used = {node.id for node in ast.walk(tree) if isinstance(node, ast.Name)}
            self.assertLessEqual(used & known - bound, ALLOWED_BUILTINS, path.name)
            for word in BARRED_WORDS:
                self.assertNotIn(word, text)

    def test_each_name_is_bound_once(self):
        for path, _, tree in files():
            bound = []
            for statement in tree.body:
                if isinstance(statement, ast.ImportFrom):
                    bound.extend(name.name for name in statement.names)
                elif isinstance(statement, (ast.FunctionDef, ast.ClassDef)):
                    bound.append(statement.name)
                elif isinstance(statement, ast.Assign):
                    bound.extend(target.id for target in statement.targets)
            self.assertEqual(len(bound), len(set(bound)), path.name)

    def test_no_local_name_is_that_of_an_import_or_a_class(self):
        for path, _, tree in files():
            taken = {name.name for node in tree.body if isinstance(node, ast.ImportFrom) for name in node.names}
            taken |= {node.name for node in tree.body if isinstance(node, ast.ClassDef)}
            for node in ast.walk(tree):
                if isinstance(node, ast.arg):
                    self.assertNotIn(node.arg, taken, (path.name, node.lineno))
                if isinstance(node, ast.Name) and isinstance(node.ctx, ast.Store):
                    self.assertNotIn(node.id, taken, (path.name, node.lineno))

    def test_no_two_files_import_from_each_other(self):
        imported = {}
        for path, _, tree in files():
            modules = [node.module for node in tree.body if isinstance(node, ast.ImportFrom)]
            imported[path.stem] = [module.split(".")[1] for module in modules if module.startswith("slotwise.")]
        for start in imported:
            seen = set()
            pending = list(imported[start])
            while pending:
                module = pending.pop()
                self.assertNotEqual(module, start)
                if module not in seen:
                    seen.add(module)
                    pending.extend(imported[module])

    def test_what_a_class_with_a_length_rules_out(self):
        for path, _, tree in files():
            for node in ast.walk(tree):
                if isinstance(node, ast.Attribute):
                    self.assertNotEqual(node.attr, "sort", (path.name, node.lineno))
                if isinstance(node, ast.ImportFrom):
                    names = {name.name for name in node.names}
                    self.assertEqual(names & {"product", "combinations", "permutations"}, set(), path.name)

    def test_no_loop_changes_what_it_walks(self):
        for path, _, tree in files():
            for function in ast.walk(tree):
                if isinstance(function, ast.FunctionDef):
                    one_list = names_of_one_list(function)
                    for loop in ast.walk(function):
                        if isinstance(loop, ast.For):
                            changed = set(changed_names(loop.body))
                            for name in walked_names(loop.iter):
                                self.assertEqual(one_list.get(name, {name}) & changed, set(), (path.name, loop.lineno))

    def test_nothing_gets_what_it_changes(self):
        for path, _, tree in files():
            for function in ast.walk(tree):
                if isinstance(function, ast.FunctionDef):
                    self.assertEqual(list(rows_that_get_what_they_change(function)), [], path.name)

    def check_row(self, *rows, told):
        """Check whether the last one of these rows, and no other one, is told as one that can get what it changes."""
        function = ast.parse("\n".join(("def f(xs, ys, at):",) + rows)).body[0]
        found = list(rows_that_get_what_they_change(function))
        self.assertEqual(found, [len(rows) + 1] if told else [], rows)

    def test_which_rows_get_what_they_change(self):
        many = "    many = xs[at] - 1 if at else xs[at]"
        self.check_row(many, "    xs[0] += many", told=True)
        self.check_row(many, "    xs[0] = xs[0] + many", told=False)
        self.check_row("    xs += xs", told=True)
        self.check_row("    xs.extend(xs)", told=True)
        self.check_row("    xs.extend(list(xs))", told=False)
        self.check_row("    xs.extend(xs[1:])", told=False)
        self.check_row("    xs[at].update(xs[0])", told=True)
        self.check_row("    xs |= ys or xs", told=True)
        self.check_row("    for at, row in enumerate(xs):", "        row += xs[0]", told=True)
        self.check_row("    for row in xs:", "        ys += row", told=False)
        self.check_row("    ys[at] = xs", "    xs += ys[0]", told=True)
        self.check_row("    ys = xs.pop()", "    xs.extend(ys)", told=True)
        self.check_row("    xs[at] += 1", told=False)
        self.check_row("    xs.extend(ys[at])", told=False)

    def test_module_level(self):
        allowed = (ast.Expr, ast.ImportFrom, ast.FunctionDef, ast.ClassDef, ast.Assign)
        for path, _, tree in files():
            for statement in tree.body:
                self.assertIsInstance(statement, allowed, path.name)
                if isinstance(statement, ast.Expr):
                    self.assertIsInstance(statement.value, ast.Constant, path.name)


if __name__ == "__main__":
    unittest.main()

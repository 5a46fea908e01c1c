"""The rules for the package's files that can be counted."""

import ast
import builtins
import pathlib
import unittest

PACKAGE = pathlib.Path(__file__).resolve().parent.parent / "evertreads"
# what the rules allow of Python's own names
ALLOWED = set("""len range enumerate zip min max sum abs sorted reversed int str bool list tuple dict set isinstance
                 ord repr any all divmod property Exception ValueError TypeError KeyError IndexError LookupError
                 ZeroDivisionError ArithmeticError NotImplemented iter next object""".split())
BANNED = set("""mro elements open input law version_info with_traceback add_note register compile copyright credits
                delattr dir eval exec exit gc globals help id importlib license locals os quit vars sys type""".split())
OTHER_FORMS = (ast.Import, ast.Lambda, ast.GeneratorExp, ast.ExceptHandler, ast.Global, ast.Nonlocal, ast.Div,
               ast.AsyncFunctionDef, ast.NamedExpr, ast.Set, ast.SetComp, ast.Match)


def files():
    return sorted(path for path in PACKAGE.rglob("*") if path.is_file() and "__pycache__" not in path.parts)


def trees():
    return [(path, ast.parse(path.read_bytes())) for path in files()]


def parents(tree):
    """A dict from each node to the one in which it stands."""
    return {child: node for node in ast.walk(tree) for child in ast.iter_child_nodes(node)}


def called(node):
    """The name of the function or method that is called, None for what is no call."""
    if not isinstance(node, ast.Call):
        return None
    return node.func.id if isinstance(node.func, ast.Name) else node.func.attr


def is_truth(node):
    """Whether the expression has one of the forms of which it is known that they give True or False."""
    if isinstance(node, ast.BoolOp):
        return all(is_truth(value) for value in node.values)
    if isinstance(node, ast.IfExp):
        return is_truth(node.body) and is_truth(node.orelse)
    if isinstance(node, ast.Compare):
        return len(node.ops) == 1 and isinstance(node.ops[0], (ast.In, ast.NotIn, ast.Is, ast.IsNot))
    if isinstance(node, ast.Constant):
        return isinstance(node.value, bool)
    return called(node) in ("bool", "isinstance", "any", "all") or (
        isinstance(node, ast.UnaryOp) and isinstance(node.op, ast.Not))


def tables_changed_within(function):
    """The names of which the function changes the items, as in `rows.setdefault(k, []).append(x)`."""
    names = set()
    for node in ast.walk(function):
        if called(node) in ("append", "extend", "insert", "pop", "remove", "update"):
            changed = node.func.value
            item = changed.func if called(changed) == "setdefault" else changed
            if item is not changed or isinstance(item, ast.Subscript):
                names.add(ast.unparse(item.value))
    return names


def is_harmless(name, above):
    """Whether the name is assigned, or what it names is only indexed, iterated, measured, copied or returned here."""
    over = above[name]
    if isinstance(over, ast.Attribute):
        return over.attr in ("setdefault", "get", "items", "keys", "values", "copy")
    if isinstance(over, (ast.For, ast.comprehension)):
        return over.iter is name
    if isinstance(over, ast.Assign):
        return over.value is not name
    return called(over) in ("len", "list", "dict") or isinstance(over, (ast.Return, ast.Subscript))


def bound_in(function):
    """The names of the function's parameters and local variables."""
    rest = [function.args.vararg] if function.args.vararg else []
    names = {parameter.arg for parameter in [*function.args.args, *function.args.kwonlyargs, *rest]}
    return names | {node.id for node in ast.walk(function)
                    if isinstance(node, ast.Name) and isinstance(node.ctx, ast.Store)}


class RulesTest(unittest.TestCase):
    def test_only_python_files(self):
        self.assertIn(PACKAGE / "__init__.py", files())
        for path in files():
            self.assertEqual(path.suffix, ".py")
            self.assertEqual(path.name, path.name.lower())

    def test_sizes_and_characters(self):
        for path in files():
            text = path.read_bytes()
            self.assertTrue(all(byte == 10 or 32 <= byte <= 126 for byte in text), path)
            lines = text.decode("ascii").splitlines()
            self.assertLessEqual(len(lines), 399, path)
            for line in lines:
                self.assertLessEqual(len(line), 120, path)
            for node in ast.walk(ast.parse(text)):
                if isinstance(node, ast.FunctionDef):
                    self.assertLessEqual(node.end_lineno - node.lineno + 1, 40, (path, node.name))

    def test_imports(self):
        places = {}
        for path, tree in trees():
            for node in tree.body:
                if isinstance(node, (ast.FunctionDef, ast.ClassDef)):
                    places.setdefault(f"evertreads.{path.stem}", set()).add(node.name)
                elif isinstance(node, ast.Assign):
                    places.setdefault(f"evertreads.{path.stem}", set()).add(node.targets[0].id)
        for path, tree in trees():
            for node in ast.walk(tree):
                if isinstance(node, ast.ImportFrom):
                    self.assertEqual(node.level, 0, path)
                    self.assertIn(node, tree.body, path)
                    for name in node.names:
                        self.assertIsNone(name.asname, path)
                        # from the very file that defines the name
                        self.assertIn(name.name, {"math": {"gcd", "lcm"}}.get(node.module) or places[node.module], path)

    def test_forms(self):
        for path, tree in trees():
            for node in ast.walk(tree):
                self.assertNotIsInstance(node, OTHER_FORMS, (path, getattr(node, "lineno", 0)))
                if isinstance(node, ast.Compare) and isinstance(node.ops[0], (ast.Is, ast.IsNot)):
                    self.assertIsInstance(node.comparators[0], ast.Constant, (path, node.lineno))
                if isinstance(node, ast.Call) and isinstance(node.func, ast.Name) and node.func.id == "set":
                    self.assertEqual(len(node.args), 1, (path, node.lineno))
                if isinstance(node, ast.Constant) and isinstance(node.value, float):
                    self.fail((path, node.lineno))

    def test_what_is_iterated_at_once(self):
        at_once = {"list", "tuple", "dict", "sorted", "sum", "min", "max", "enumerate", "zip"}
        for path, tree in trees():
            above = parents(tree)
            for node in ast.walk(tree):
                if called(node) in ("range", "zip", "enumerate", "reversed", "items", "keys", "values"):
                    over = above[node]
                    iterated = isinstance(over, (ast.For, ast.comprehension)) and over.iter is node
                    self.assertTrue(iterated or called(over) in at_once, (path, node.lineno))

    def test_rows_that_run_behind_errors(self):
        for path, tree in trees():
            for node in ast.walk(tree):
                last = node.finalbody if isinstance(node, ast.Try) else []
                if isinstance(node, ast.FunctionDef) and node.name == "__exit__":
                    last = node.body
                for row in last:
                    self.assertIsInstance(row, ast.Assign, (path, row.lineno))
                    self.assertIsInstance(row.targets[0], (ast.Name, ast.Attribute), (path, row.lineno))
                    self.assertIsInstance(row.value, (ast.Name, ast.Attribute), (path, row.lineno))

    def test_items_without_iteration(self):
        for path, tree in trees():
            for node in ast.walk(tree):
                if isinstance(node, ast.ClassDef):
                    methods = {part.name: part for part in node.body if isinstance(part, ast.FunctionDef)}
                    if "__getitem__" in methods:
                        self.assertIsInstance(methods["__iter__"].body[0], ast.Raise, (path, node.lineno))
                    if "__len__" in methods:
                        self.assertEqual(called(methods["__len__"].body[-1].value), "len", (path, node.lineno))

    def test_what_truths_are_made_of(self):
        for path, tree in trees():
            for node in ast.walk(tree):
                if isinstance(node, ast.FunctionDef) and node.name == "__bool__":
                    self.assertIsInstance(node.body[-1], ast.Return, (path, node.lineno))
                    for back in [part for part in ast.walk(node) if isinstance(part, ast.Return)]:
                        self.assertTrue(is_truth(back.value), (path, back.lineno))

    def test_tables_whose_items_are_changed(self):
        for path, tree in trees():
            above = parents(tree)
            for function in [node for node in ast.walk(tree) if isinstance(node, ast.FunctionDef)]:
                tables = tables_changed_within(function)
                for node in ast.walk(function):
                    if isinstance(node, ast.Name) and node.id in tables:
                        self.assertTrue(is_harmless(node, above), (path, node.lineno))

    def test_names(self):
        # doctest adds _ to them
        own = set(dir(builtins)) - {"_"}
        for path, tree in trees():
            taken = {name.name for node in tree.body if isinstance(node, ast.ImportFrom) for name in node.names}
            taken |= {node.name for node in tree.body if isinstance(node, ast.ClassDef)}
            for node in ast.walk(tree):
                if isinstance(node, ast.FunctionDef):
                    self.assertEqual(bound_in(node) & (taken | own | BANNED), set(), (path, node.name))
                if isinstance(node, (ast.FunctionDef, ast.ClassDef)):
                    self.assertNotIn(node.name, own | BANNED, path)
                if isinstance(node, ast.Name) and node.id in own:
                    self.assertIn(node.id, ALLOWED, (path, node.lineno))
                if isinstance(node, ast.Attribute):
                    self.assertNotIn(node.attr, BANNED, (path, node.lineno))

    def test_properties_are_no_attributes_and_no_methods(self):
        properties, methods, assigned = set(), set(), set()
        for _, tree in trees():
            for node in ast.walk(tree):
                if isinstance(node, ast.ClassDef):
                    for part in node.body:
                        if isinstance(part, ast.FunctionDef):
                            (properties if part.decorator_list else methods).add(part.name)
                if isinstance(node, ast.Attribute) and isinstance(node.ctx, ast.Store):
                    assigned.add(node.attr)
        self.assertEqual([properties & methods, properties & assigned, methods & assigned], [set(), set(), set()])

    def test_no_imports_in_a_ring(self):
        leads = {f"evertreads.{path.stem}": {node.module for node in tree.body if isinstance(node, ast.ImportFrom)}
                 for path, tree in trees()}
        done = set()
        while len(done) < len(leads):
            ready = {name for name in leads if name not in done and leads[name] <= done | {"math"}}
            self.assertNotEqual(ready, set())
            done |= ready


if __name__ == "__main__":
    unittest.main()

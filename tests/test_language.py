"""The package's files keep to the part of Python that is allowed, as far as a look at their form can tell."""

import ast
import builtins
import pathlib
import re
import unittest

PACKAGE = pathlib.Path(__file__).resolve().parent.parent / "manyrounds"

# L6 and L7: the forms of statements and expressions that are used here and allowed. What isn't among them needs no
# look at its own rules: sets and lambdas (L13, L24), try and raise (L19), ** (L27).
FORMS = """
    Module FunctionDef ClassDef arguments arg Return Assign AugAssign For While If ImportFrom alias Expr
    BoolOp And Or BinOp Add Sub Mult FloorDiv Mod UnaryOp Not USub IfExp Dict ListComp comprehension
    Compare Eq NotEq Lt LtE Gt GtE Is IsNot In NotIn Call keyword Constant Attribute Subscript Name List Tuple Slice
    Load Store
""".split()

# L8: those that are used here, without sets and errors for the same reason.
OWN_NAMES = "len range enumerate zip min max sum abs sorted list tuple dict any all".split()

# L23: these are only walked, not kept.
WALKED = "range enumerate zip".split()

# L26: these methods change what they are called on.
CHANGING = "append clear extend insert pop remove reverse setdefault update".split()

# L25.
OWN_METHODS = """
    append clear copy count endswith extend find get index insert isalnum isalpha isdigit islower isspace isupper
    items join keys ljust lower lstrip partition pop remove replace reverse rfind rjust rpartition rsplit rstrip
    setdefault split splitlines startswith strip update upper values zfill bit_length
""".split()

# L17: these stand nowhere, in remarks and texts neither.
NO_WORDS = """
    type typing typing_extensions enum Enum IntEnum StrEnum Flag IntFlag Generic Protocol ABC ABCMeta namedtuple
    NamedTuple TypedDict TYPE_CHECKING abstractmethod
""".split()

# L17 and L26: not as a value or a method of an object.
NO_ATTRIBUTES = """
    register mro elements open input version_info with_traceback add_note format format_map sort args encode
""".split()


def files():
    return sorted(path for path in PACKAGE.rglob("*") if "__pycache__" not in path.parts)


def trees():
    return [(path, ast.parse(path.read_text(encoding="ascii"))) for path in files()]


def nodes(kind):
    return [(path, node) for path, tree in trees() for node in ast.walk(tree) if isinstance(node, kind)]


def is_plain(node):
    """Whether this is a plain value of L3."""
    if isinstance(node, ast.UnaryOp):
        return isinstance(node.op, ast.USub) and isinstance(node.operand, ast.Constant)
    if isinstance(node, (ast.List, ast.Tuple)):
        return all(is_plain(part) for part in node.elts)
    if isinstance(node, ast.Dict):
        return all(is_plain(part) for part in node.keys + node.values)
    return isinstance(node, (ast.Constant, ast.Name))


def called(node):
    """The name that is called; None if it's no plain name."""
    return node.func.id if isinstance(node.func, ast.Name) else None


def is_method(node):
    return isinstance(node, ast.Attribute) and node.attr in OWN_METHODS


def as_read(node):
    return ast.dump(node).replace("ctx=Store()", "ctx=Load()")


def bound_in(function):
    names = {node.arg for node in ast.walk(function) if isinstance(node, ast.arg)}
    for node in ast.walk(function):
        if isinstance(node, ast.Name) and isinstance(node.ctx, ast.Store):
            names.add(node.id)
    return names


class LanguageTest(unittest.TestCase):
    def test_files(self):
        names = [path.name for path in files()]
        self.assertIn("__init__.py", names)
        for name in names:
            self.assertRegex(name, r"\A([a-z][a-z0-9_]*|__init__|__main__)\.py\Z")
            self.assertNotIn(name[:-3], dir(builtins))

    def test_signs_and_sizes(self):
        for path in files():
            text = path.read_bytes().decode("ascii")
            self.assertRegex(text, r"\A[ -~\n]*\Z")
            self.assertLessEqual(text.count("\n"), 400)
            self.assertLessEqual(max(len(row) for row in text.split("\n")), 120)
        for path, node in nodes(ast.FunctionDef):
            self.assertLessEqual(node.end_lineno - node.lineno + 1, 40, node.name)

    def test_words(self):
        for path in files():
            text = path.read_text()
            self.assertEqual(sorted(set(re.findall(r"\w+", text)) & set(NO_WORDS)), [], path)
            self.assertNotRegex(text, "dataclass|overload|contextmanager")

    def test_forms(self):
        for path, node in nodes(ast.AST):
            self.assertIn(node.__class__.__name__, FORMS, (path, getattr(node, "lineno", None)))

    def test_assignments_and_loops(self):
        for path, node in nodes(ast.Assign):
            self.assertEqual(len(node.targets), 1)
            self.assertIsInstance(node.targets[0], (ast.Name, ast.Attribute, ast.Subscript))
        for path, node in nodes((ast.For, ast.While)):
            self.assertEqual(node.orelse, [])
        for path, node in nodes(ast.ListComp):
            self.assertEqual(len(node.generators), 1)
            self.assertLessEqual(len(node.generators[0].ifs), 1)

    def test_functions_and_classes(self):
        for path, node in nodes(ast.FunctionDef):
            self.assertEqual(node.decorator_list, [])
            self.assertEqual(node.args.posonlyargs + node.args.kwonlyargs, [])
            self.assertEqual((node.args.vararg, node.args.kwarg), (None, None))
        for path, node in nodes(ast.ClassDef):
            self.assertEqual(node.decorator_list + node.keywords, [])
            self.assertLessEqual(len(node.bases), 1)

    def test_tops(self):
        for path, tree in trees():
            bound = []
            for node in tree.body:
                if isinstance(node, ast.Assign):
                    self.assertTrue(is_plain(node.value), (path, node.lineno))
                    bound.append(node.targets[0].id)
                elif isinstance(node, ast.Expr):
                    self.assertIs(node, tree.body[0])
                    self.assertIsInstance(node.value, ast.Constant)
                elif isinstance(node, ast.ImportFrom):
                    self.assertEqual(node.level, 0)
                    self.assertRegex(node.module, r"\Amanyrounds\.[a-z]+\Z")
                    bound.extend(alias.asname or alias.name for alias in node.names)
                else:
                    self.assertIsInstance(node, (ast.FunctionDef, ast.ClassDef))
                    bound.append(node.name)
            self.assertEqual(len(bound), len(set(bound)), path)

    def test_names(self):
        for path, tree in trees():
            names = [node for node in ast.walk(tree) if isinstance(node, ast.Name)]
            stored = [node.id for node in names if isinstance(node.ctx, ast.Store)]
            stored += [node.arg for node in ast.walk(tree) if isinstance(node, ast.arg)]
            defined = [node.name for node in ast.walk(tree) if isinstance(node, (ast.FunctionDef, ast.ClassDef))]
            for name in stored + [name for name in defined if name != "__init__"]:
                self.assertRegex(name, r"\A[A-Za-z][A-Za-z0-9_]*\Z")
                self.assertNotIn(name, dir(builtins))
            rows = [node for node in tree.body if isinstance(node, ast.ImportFrom)]
            imported = [alias.name for row in rows for alias in row.names]
            for node in names:
                self.assertIn(node.id, stored + defined + imported + OWN_NAMES, path)

    def test_methods_and_values_of_objects(self):
        methods = []
        for path, node in nodes(ast.ClassDef):
            methods += [part.name for part in node.body if isinstance(part, ast.FunctionDef)]
        own = {node.attr for path, node in nodes(ast.Attribute) if isinstance(node.ctx, ast.Store)}
        self.assertEqual(own & set(methods), set())
        for path, node in nodes(ast.Attribute):
            self.assertNotIn(node.attr, NO_ATTRIBUTES)
            self.assertIn(node.attr, [*methods, *own, *OWN_METHODS])
        self.assertEqual(own & set(OWN_METHODS), set())


    def test_methods_with_two_underscores(self):
        for path, node in nodes(ast.FunctionDef):
            if node.name.startswith("__"):
                self.assertEqual(node.name, "__init__")
                self.assertEqual([part for part in ast.walk(node) if isinstance(part, ast.Return)], [])

    def test_annotations(self):
        for path, node in nodes(ast.FunctionDef):
            self.assertIsNone(node.returns)
            for part in node.args.args:
                self.assertIsNone(part.annotation)

    def test_constants(self):
        for path, node in nodes(ast.Constant):
            self.assertIn(node.value.__class__, (int, str, bool, None.__class__))
            self.assertNotIn("%", str(node.value))
            self.assertNotIn("\\", str(node.value))

    def test_is(self):
        for path, node in nodes(ast.Compare):
            for part, right in zip(node.ops, node.comparators):
                if isinstance(part, (ast.Is, ast.IsNot)):
                    self.assertIsInstance(right, ast.Constant)
                    self.assertIn(right.value, (None, True, False))

    def test_keywords(self):
        for path, node in nodes(ast.Call):
            for part in node.keywords:
                self.assertEqual((called(node), part.arg), ("min", "default"))

    def test_own_names_are_only_called(self):
        for path, tree in trees():
            heads = [node.func for node in ast.walk(tree) if isinstance(node, ast.Call)]
            for node in ast.walk(tree):
                if isinstance(node, ast.Name) and node.id in OWN_NAMES or is_method(node):
                    self.assertIn(node, heads)

    def test_walked_at_once(self):
        for path, tree in trees():
            walks = [node.iter for node in ast.walk(tree) if isinstance(node, (ast.For, ast.comprehension))]
            for node in ast.walk(tree):
                if isinstance(node, ast.Call) and called(node) in WALKED:
                    self.assertIn(node, walks)

    def test_what_a_loop_walks_is_not_changed_in_it(self):
        for path, loop in nodes(ast.For):
            walked = {ast.dump(part) for part in [loop.iter, *getattr(loop.iter, "args", [])]}
            for node in ast.walk(loop):
                if isinstance(node, ast.Subscript) and isinstance(node.ctx, ast.Store):
                    self.assertNotIn(as_read(node.value), walked)
                if isinstance(node, ast.Attribute) and node.attr in CHANGING:
                    self.assertNotIn(as_read(node.value), walked)

    def test_locals_are_not_called_like_what_stands_at_the_top(self):
        for path, tree in trees():
            taken = [alias.name for row in tree.body if isinstance(row, ast.ImportFrom) for alias in row.names]
            taken += [node.name for node in tree.body if isinstance(node, ast.ClassDef)]
            for function in ast.walk(tree):
                if isinstance(function, ast.FunctionDef):
                    self.assertEqual(bound_in(function) & set(taken), set(), function.name)

    def test_what_stands_at_the_top_is_only_read_by_an_index(self):
        for path, tree in trees():
            rows = [row for row in tree.body if isinstance(row, ast.Assign)]
            kept = [row.targets[0].id for row in rows if isinstance(row.value, (ast.List, ast.Dict))]
            indexed = [node.value for node in ast.walk(tree) if isinstance(node, ast.Subscript)
                       and isinstance(node.ctx, ast.Load)]
            for node in ast.walk(tree):
                if isinstance(node, ast.Name) and node.id in kept and isinstance(node.ctx, ast.Load):
                    self.assertIn(node, indexed)

    def test_no_two_files_draw_from_one_another(self):
        drawn = {}
        for path, tree in trees():
            rows = [row for row in tree.body if isinstance(row, ast.ImportFrom)]
            drawn["manyrounds." + path.stem] = {row.module for row in rows}
            for row in rows:
                defining = ast.parse((PACKAGE / (row.module.split(".")[1] + ".py")).read_text())
                tops = [node.name for node in defining.body if isinstance(node, (ast.FunctionDef, ast.ClassDef))]
                self.assertIn(row.names[0].name, tops)
        while drawn:
            free = [name for name in drawn if not drawn[name] & set(drawn)]
            self.assertNotEqual(free, [], drawn)
            for name in free:
                del drawn[name]


if __name__ == "__main__":
    unittest.main()

"""That the package keeps to its part of Python, as far as its files show it: rule numbers as in LANGUAGE.md."""

import ast
import builtins
import pathlib
import re
import unittest

PACKAGE = pathlib.Path(__file__).resolve().parent.parent / "cellsheets"

STATEMENTS = (
    ast.FunctionDef, ast.ClassDef, ast.ImportFrom, ast.Assign, ast.AugAssign, ast.If, ast.While, ast.For, ast.Return,
    ast.Break, ast.Continue, ast.Pass, ast.Raise, ast.Try, ast.Expr,
)
EXPRESSIONS = (
    ast.Constant, ast.Name, ast.Attribute, ast.Subscript, ast.Slice, ast.Call, ast.BinOp, ast.UnaryOp, ast.BoolOp,
    ast.Compare, ast.IfExp, ast.List, ast.Tuple, ast.Dict, ast.ListComp, ast.Lambda, ast.JoinedStr,
    ast.FormattedValue,
)
OWN_NAMES = (
    "len range enumerate zip min max sum abs sorted reversed int str bool list tuple dict set frozenset isinstance ord "
    "repr any all divmod Exception ValueError TypeError KeyError IndexError LookupError ZeroDivisionError "
    "ArithmeticError OverflowError RuntimeError NotImplementedError AttributeError StopIteration"
).split()
METHODS = (
    "append clear copy count endswith extend find get index insert isalnum isalpha isdigit islower isspace isupper "
    "items join keys ljust lower lstrip partition pop remove replace reverse rfind rjust rpartition rsplit rstrip "
    "setdefault split splitlines startswith strip update upper values zfill bit_length"
).split()
WORDS_KEPT_OUT = (
    "type typing typing_extensions enum Enum IntEnum StrEnum Flag IntFlag Generic Protocol ABC ABCMeta namedtuple "
    "NamedTuple TypedDict TYPE_CHECKING abstractmethod"
).split()
NAMES_KEPT_OUT = (
    "register mro elements open input version_info with_traceback add_note attrgetter breakpoint builtins compile "
    "copyright credits delattr dir eval exec exit gc getattr globals hasattr help id importlib license locals "
    "methodcaller os quit setattr super type vars sys print chr"
).split()


def files():
    return sorted(PACKAGE.glob("*.py"))


def trees():
    return [(path.name, ast.parse(path.read_text())) for path in files()]


def walked(kind):
    return [(name, node) for name, tree in trees() for node in ast.walk(tree) if isinstance(node, kind)]


def own_methods_and_values():
    methods, values = set(), set()
    for name, node in walked(ast.ClassDef):
        methods |= {item.name for item in node.body if isinstance(item, ast.FunctionDef)}
    for name, node in walked(ast.Attribute):
        if isinstance(node.ctx, ast.Store):
            values.add(node.attr)
    return methods, values


class Language(unittest.TestCase):
    def test_files(self):
        """L1, L14: nothing but plainly named files lies in the package."""
        found = [path.name for path in PACKAGE.iterdir() if path.name != "__pycache__"]
        self.assertEqual(sorted(found), [path.name for path in files()])
        self.assertIn("__init__.py", found)
        for name in found:
            self.assertRegex(name, r"^([a-z][a-z0-9_]*|__init__)\.py$")
            self.assertNotIn(name[:-3], dir(builtins))

    def test_signs_and_sizes(self):
        """L10, L14, L17."""
        for path in files():
            text = path.read_text()
            lines = text.splitlines()
            self.assertLessEqual(len(lines), 400, path)
            self.assertRegex(text, r"^[ -~\n]*$")
            self.assertLessEqual(max([len(line) for line in lines]), 120, path)
            self.assertFalse(set(re.findall(r"\w+", text)) & set(WORDS_KEPT_OUT), path)
        for name, node in walked(ast.FunctionDef):
            self.assertLessEqual(node.end_lineno - node.lineno + 1, 40, (name, node.name))

    def test_imports(self):
        """L2, L16: from the very file that defines the name, and in no circle."""
        drawn = {}
        for name, tree in trees():
            sources = [node for node in tree.body if isinstance(node, ast.ImportFrom)]
            drawn[name] = [node.module.split(".")[1] + ".py" for node in sources]
            for node in sources:
                self.assertEqual(node.level, 0)
                defined = ast.parse((PACKAGE / drawn[name][sources.index(node)]).read_text()).body
                names = [item.name for item in defined if isinstance(item, (ast.FunctionDef, ast.ClassDef))]
                names += [item.targets[0].id for item in defined if isinstance(item, ast.Assign)]
                self.assertLessEqual({alias.name for alias in node.names}, set(names))
                self.assertEqual({alias.asname for alias in node.names}, {None})
        while drawn:
            free = [name for name in drawn if not any(source in drawn for source in drawn[name])]
            self.assertTrue(free, drawn)
            drawn = {name: drawn[name] for name in drawn if name not in free}

    def test_statements_and_expressions(self):
        """L3 to L7."""
        for name, node in walked(ast.stmt):
            self.assertIsInstance(node, STATEMENTS, (name, node.lineno))
            self.assertFalse(getattr(node, "decorator_list", []), (name, node.lineno))
            if isinstance(node, ast.Assign):
                self.assertEqual(len(node.targets), 1, (name, node.lineno))
                self.assertIsInstance(node.targets[0], (ast.Name, ast.Attribute, ast.Subscript), (name, node.lineno))
            if isinstance(node, (ast.For, ast.While)):
                self.assertFalse(node.orelse, (name, node.lineno))
        for name, node in walked(ast.expr):
            self.assertIsInstance(node, EXPRESSIONS, (name, node.lineno))
            if isinstance(node, ast.Constant):
                self.assertIn(type(node.value), (int, str, bool, type(None)), (name, node.lineno))
            if isinstance(node, ast.ListComp):
                self.assertEqual(len(node.generators), 1, (name, node.lineno))
                self.assertLessEqual(len(node.generators[0].ifs), 1, (name, node.lineno))
        for name, node in walked((ast.Div, ast.Pow, ast.Is)):
            self.assertIsInstance(node, ast.Is, name)

    def test_tops_hold_plain_values(self):
        """L3, L15: no list or dict is kept at a file's top here at all."""
        for name, tree in trees():
            for node in tree.body:
                if isinstance(node, ast.Assign):
                    self.assertIsInstance(node.value, (ast.Constant, ast.Tuple, ast.UnaryOp), (name, node.lineno))

    def test_names(self):
        """L8, L12, L15, L17."""
        for name, node in walked(ast.Name):
            self.assertNotIn(node.id, NAMES_KEPT_OUT, (name, node.lineno))
            self.assertFalse(node.id.startswith("_"), (name, node.lineno))
            if node.id in dir(builtins):
                self.assertIn(node.id, OWN_NAMES, (name, node.lineno))
                self.assertIsInstance(node.ctx, ast.Load, (name, node.lineno))
        for name, node in walked(ast.arg):
            self.assertNotIn(node.arg, dir(builtins), (name, node.lineno))
        for name, tree in trees():
            bound = {alias.asname or alias.name for node in ast.walk(tree) if isinstance(node, ast.ImportFrom)
                     for alias in node.names}
            bound |= {node.name for node in ast.walk(tree) if isinstance(node, ast.ClassDef)}
            local = {node.id for node in ast.walk(tree) if isinstance(node, ast.Name) and isinstance(node.ctx, ast.Store)}
            local |= {node.arg for node in ast.walk(tree) if isinstance(node, ast.arg)}
            self.assertFalse(bound & local, name)

    def test_methods(self):
        """L18, L25, L26: a called method is of the program's own or on the list; none is a value elsewhere."""
        methods, values = own_methods_and_values()
        self.assertFalse(methods & values)
        self.assertFalse(set(METHODS) & methods)
        for name, node in walked(ast.Call):
            if isinstance(node.func, ast.Attribute):
                self.assertIn(node.func.attr, list(methods) + METHODS, (name, node.lineno))
            self.assertFalse(node.keywords, (name, node.lineno))

    def test_walked_at_once(self):
        """L23: what is walked through once is not kept, and not asked with in either."""
        allowed = {}
        for name, node in walked((ast.For, ast.comprehension)):
            allowed[(name, ast.dump(node.iter, include_attributes=True))] = True
        for name, node in walked(ast.Call):
            if isinstance(node.func, ast.Name) and node.func.id in ("list", "tuple", "dict", "sorted", "sum", "any", "all"):
                allowed[(name, ast.dump(node.args[0], include_attributes=True))] = True
        for name, node in walked(ast.Call):
            called = node.func.id if isinstance(node.func, ast.Name) else getattr(node.func, "attr", "")
            if called in ("zip", "enumerate", "reversed", "range", "items", "keys", "values"):
                self.assertIn((name, ast.dump(node, include_attributes=True)), allowed, (name, node.lineno))


if __name__ == "__main__":
    unittest.main()

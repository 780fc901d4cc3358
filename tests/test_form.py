"""The form of the package's files, as far as it is easily seen: some rules of LANGUAGE.md, by number."""

import ast
import pathlib
import re
import unittest

PACKAGE = pathlib.Path(__file__).resolve().parent.parent / "keepable"
FILES = sorted(PACKAGE.glob("*.py"))

STATEMENTS = (
    ast.FunctionDef, ast.ClassDef, ast.ImportFrom, ast.Assign, ast.AugAssign, ast.If, ast.While, ast.For, ast.Return,
    ast.Break, ast.Continue, ast.Pass, ast.Raise, ast.Try, ast.Expr,
)
NOT_USED = (
    ast.Set, ast.SetComp, ast.DictComp, ast.GeneratorExp, ast.NamedExpr, ast.Starred, ast.Div, ast.Await, ast.Yield,
    ast.YieldFrom,
)
OWN_NAMES = (
    "len range enumerate zip min max sum abs sorted reversed int str bool list tuple dict set frozenset isinstance "
    "ord repr any all divmod"
).split()
WORDS = (
    "type typing typing_extensions enum Enum IntEnum StrEnum Flag IntFlag Generic Protocol ABC ABCMeta namedtuple "
    "NamedTuple TypedDict TYPE_CHECKING abstractmethod"
).split()
PARTS = ("dataclass", "overload", "contextmanager")


def text_of(path):
    return path.read_text(encoding="utf-8")


def nodes_of(path):
    return list(ast.walk(ast.parse(text_of(path))))


def bound_names(nodes):
    names = [node.name for node in nodes if isinstance(node, (ast.FunctionDef, ast.ClassDef))]
    names += [node.id for node in nodes if isinstance(node, ast.Name) and isinstance(node.ctx, ast.Store)]
    names += [node.arg for node in nodes if isinstance(node, ast.arg)]
    names += [alias.asname or alias.name for node in nodes if isinstance(node, ast.ImportFrom) for alias in node.names]
    return names


class Form(unittest.TestCase):
    def test_l1_files(self):
        self.assertIn(PACKAGE / "__init__.py", FILES)
        others = [path.name for path in PACKAGE.iterdir() if path not in FILES and path.name != "__pycache__"]
        self.assertEqual(others, [])

    def test_l2_imports(self):
        for path in FILES:
            for node in nodes_of(path):
                if isinstance(node, ast.ImportFrom):
                    self.assertEqual((node.level, node.module.split(".")[0]), (0, "keepable"), path.name)

    def test_l6_l7_statements_and_expressions(self):
        for path in FILES:
            for node in nodes_of(path):
                where = (path.name, getattr(node, "lineno", 0), ast.dump(node)[:60])
                if isinstance(node, ast.stmt):
                    self.assertIsInstance(node, STATEMENTS, where)
                if isinstance(node, ast.Assign):
                    self.assertEqual(len(node.targets), 1, where)
                self.assertNotIsInstance(node, NOT_USED, where)

    def test_l20_is_beside_none_true_and_false_alone(self):
        for path in FILES:
            for node in nodes_of(path):
                if isinstance(node, ast.Compare) and any(isinstance(op, (ast.Is, ast.IsNot)) for op in node.ops):
                    sides = [side for side in [node.left] + node.comparators if isinstance(side, ast.Constant)]
                    plain = any(side.value is known for side in sides for known in (None, True, False))
                    self.assertTrue(plain, (path.name, node.lineno))

    def test_l16_no_two_files_draw_from_one_another(self):
        drawn = {}
        for path in FILES:
            modules = [node.module for node in nodes_of(path) if isinstance(node, ast.ImportFrom)]
            drawn[f"keepable.{path.stem}"] = set(modules)
        while drawn:
            free = [name for name in drawn if not drawn[name] & set(drawn)]
            self.assertNotEqual(free, [], sorted(drawn))
            drawn = {name: drawn[name] for name in drawn if name not in free}

    def test_l8_names(self):
        for path in FILES:
            nodes = nodes_of(path)
            known = set(OWN_NAMES) | set(bound_names(nodes))
            read = {node.id for node in nodes if isinstance(node, ast.Name)}
            self.assertEqual(sorted(read - known), [], path.name)

    def test_l12_l15_bound_names(self):
        for path in FILES:
            for name in bound_names(nodes_of(path)):
                self.assertTrue(name == "__init__" or re.fullmatch("[A-Za-z][A-Za-z0-9_]*", name), (path.name, name))
                self.assertFalse(name in dir(__import__("builtins")), (path.name, name))

    def test_l10_size(self):
        for path in FILES:
            rows = text_of(path).split("\n")
            self.assertLessEqual(len(rows), 400, path.name)
            self.assertLessEqual(max(len(row) for row in rows), 120, path.name)
            for node in nodes_of(path):
                if isinstance(node, ast.FunctionDef):
                    self.assertLessEqual(node.end_lineno - node.lineno + 1, 40, (path.name, node.name))

    def test_l14_signs(self):
        for path in FILES:
            odd = sorted(set(re.findall("[^ -~\n]", text_of(path))))
            self.assertEqual(odd, [], path.name)

    def test_l17_words(self):
        for path in FILES:
            text = text_of(path)
            found = [word for word in WORDS if re.search(rf"\b{word}\b", text)] + [part for part in PARTS if part in text]
            self.assertEqual(found, [], path.name)

    def test_l18_no_name_is_a_method_and_a_value(self):
        methods, values = set(), set()
        for path in FILES:
            for node in nodes_of(path):
                if isinstance(node, ast.ClassDef):
                    methods |= {inner.name for inner in node.body if isinstance(inner, ast.FunctionDef)}
                if isinstance(node, ast.Attribute) and isinstance(node.ctx, ast.Store):
                    values.add(node.attr)
        self.assertEqual(sorted(methods & values), [])


if __name__ == "__main__":
    unittest.main()

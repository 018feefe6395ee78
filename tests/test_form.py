"""The form of the package's own files, as far as it can be told from their text."""

import ast
import builtins
import pathlib
import re
import unittest

FOLDER = pathlib.Path(__file__).resolve().parent.parent / "fivestages"
FILES = sorted(FOLDER.rglob("*.py"))

PYTHONS_NAMES = set("""
    len range enumerate zip min max sum abs sorted reversed int str bool list tuple dict set frozenset isinstance
    ord repr any all divmod Exception ValueError TypeError KeyError IndexError LookupError ZeroDivisionError
    ArithmeticError OverflowError RuntimeError NotImplementedError AttributeError StopIteration
""".split())
PYTHONS_METHODS = set("""
    append clear copy count endswith extend find get index insert isalnum isalpha isdigit islower isspace isupper
    items join keys ljust lower lstrip partition pop remove replace reverse rfind rjust rpartition rsplit rstrip
    setdefault split splitlines startswith strip update upper values zfill bit_length
""".split())
WORDS_NOWHERE = set("""
    type typing typing_extensions enum Enum IntEnum StrEnum Flag IntFlag Generic Protocol ABC ABCMeta namedtuple
    NamedTuple TypedDict TYPE_CHECKING abstractmethod register mro elements open input version_info with_traceback
    add_note print chr
""".split())
PARTS = (
    ast.Module, ast.FunctionDef, ast.arguments, ast.arg, ast.ClassDef, ast.ImportFrom, ast.alias, ast.Expr,
    ast.Assign, ast.AugAssign, ast.If, ast.While, ast.For, ast.Return, ast.Break, ast.Continue, ast.Pass, ast.Raise,
    ast.Try, ast.ExceptHandler, ast.Constant, ast.List, ast.Tuple, ast.Dict, ast.BinOp, ast.UnaryOp, ast.BoolOp,
    ast.Compare, ast.IfExp, ast.Call, ast.Attribute, ast.Subscript, ast.Slice, ast.ListComp, ast.comprehension,
    ast.Name, ast.expr_context, ast.operator, ast.unaryop, ast.boolop, ast.cmpop, ast.keyword,
)


def parts_of(tree, *kinds):
    return [part for part in ast.walk(tree) if isinstance(part, kinds)]


def own_methods():
    names = set()
    for file in FILES:
        for cls in parts_of(ast.parse(file.read_text()), ast.ClassDef):
            names.update(part.name for part in cls.body if isinstance(part, ast.FunctionDef))
    return names


def own_values():
    names = set()
    for file in FILES:
        for part in parts_of(ast.parse(file.read_text()), ast.Attribute):
            if isinstance(part.ctx, ast.Store):
                names.add(part.attr)
    return names


class Form(unittest.TestCase):
    def each(self):
        return [(file, file.read_text(), ast.parse(file.read_text())) for file in FILES]

    def test_files(self):
        found = [path for path in FOLDER.rglob("*") if "__pycache__" not in path.parts]
        self.assertEqual(sorted(found), FILES)
        for path in found:
            self.assertRegex(path.name, r"^[a-z0-9_]+\.py$")
        self.assertIn(FOLDER / "__init__.py", found)
        self.assertIn(FOLDER / "machine.py", found)

    def test_signs_and_sizes(self):
        for file, text, tree in self.each():
            self.assertEqual([sign for sign in text if not (" " <= sign <= "~" or sign == "\n")], [])
            lines = text.split("\n")
            self.assertLessEqual(len(lines), 400)
            self.assertLessEqual(max(len(line) for line in lines), 120)
            for part in parts_of(tree, ast.FunctionDef):
                self.assertLessEqual(part.end_lineno - part.lineno + 1, 40, part.name)

    def test_words_that_stand_nowhere(self):
        for file, text, tree in self.each():
            self.assertEqual(set(re.findall(r"\w+", text)) & WORDS_NOWHERE, set())
            self.assertNotRegex(text, "dataclass|overload|contextmanager")

    def test_imports(self):
        for file, text, tree in self.each():
            for part in parts_of(tree, ast.Import, ast.ImportFrom):
                self.assertIsInstance(part, ast.ImportFrom)
                self.assertIn(part, tree.body)
                self.assertEqual(part.level, 0)
                self.assertRegex(part.module, r"^fivestages\.")
                source = ast.parse((FOLDER / (part.module.split(".")[1] + ".py")).read_text())
                defined = {each.name for each in source.body if isinstance(each, (ast.FunctionDef, ast.ClassDef))}
                defined |= {each.targets[0].id for each in source.body if isinstance(each, ast.Assign)}
                self.assertLessEqual({alias.name for alias in part.names}, defined)

    def test_parts_of_the_language(self):
        for file, text, tree in self.each():
            others = [part for part in ast.walk(tree) if not isinstance(part, PARTS)]
            self.assertEqual([ast.dump(part) for part in others], [])
            for part in parts_of(tree, ast.Assign):
                self.assertEqual(len(part.targets), 1)
            for part in parts_of(tree, ast.BinOp, ast.AugAssign):
                self.assertNotIsInstance(part.op, (ast.Div, ast.MatMult, ast.Pow))
            for part in parts_of(tree, ast.Constant):
                self.assertIn(type(part.value), (int, str, bool, type(None)))
            for part in parts_of(tree, ast.FunctionDef, ast.ClassDef):
                self.assertEqual(part.decorator_list, [])
            for part in parts_of(tree, ast.While, ast.For):
                self.assertEqual(part.orelse, [])
            for part in parts_of(tree, ast.Compare):
                for sign, right in zip(part.ops, part.comparators):
                    if isinstance(sign, (ast.Is, ast.IsNot)):
                        self.assertIn(getattr(right, "value", 0), (None, True, False))

    def test_names(self):
        for file, text, tree in self.each():
            names = [part for part in parts_of(tree, ast.Name)]
            for part in names:
                self.assertRegex(part.id, "^[A-Za-z][A-Za-z0-9_]*$")
                if hasattr(builtins, part.id):
                    self.assertIn(part.id, PYTHONS_NAMES)
                    self.assertIsInstance(part.ctx, ast.Load)
            bound = [part.arg for part in parts_of(tree, ast.arg)]
            bound += [part.name for part in tree.body if isinstance(part, (ast.FunctionDef, ast.ClassDef))]
            self.assertEqual([name for name in bound if hasattr(builtins, name)], [])

    def test_each_name_is_bound_once_at_the_top(self):
        for file, text, tree in self.each():
            bound = []
            for part in tree.body:
                if isinstance(part, (ast.FunctionDef, ast.ClassDef)):
                    bound.append(part.name)
                elif isinstance(part, ast.Assign):
                    bound.append(part.targets[0].id)
                elif isinstance(part, ast.ImportFrom):
                    bound += [alias.name for alias in part.names]
                else:
                    self.assertIsInstance(part, ast.Expr)
                    self.assertIsInstance(part.value.value, str)
            self.assertEqual(len(bound), len(set(bound)))

    def test_methods(self):
        methods, values = own_methods(), own_values()
        self.assertEqual(methods & values, set())
        taken = {name for kind in (str, int, list, dict, set, bytes, tuple) for name in dir(kind)}
        self.assertEqual((methods - {"__init__"}) & taken, set())
        self.assertEqual(values & taken, set())
        for file, text, tree in self.each():
            for part in parts_of(tree, ast.Attribute):
                self.assertIn(part.attr, methods | values | PYTHONS_METHODS)


if __name__ == "__main__":
    unittest.main()

"""The package's files keep to the part of Python that the program is written in."""

import ast
import builtins
import re
import unittest
from pathlib import Path

PACKAGE = Path(__file__).resolve().parent.parent / "openorder"

STATEMENTS = (ast.Assign, ast.AugAssign, ast.If, ast.While, ast.For, ast.Return, ast.Break, ast.Continue, ast.Pass,
              ast.Raise, ast.Try, ast.ExceptHandler, ast.Expr, ast.FunctionDef, ast.ClassDef, ast.ImportFrom)
EXPRESSIONS = (ast.Constant, ast.List, ast.Tuple, ast.Dict, ast.Set, ast.BinOp, ast.UnaryOp, ast.BoolOp, ast.Compare,
               ast.IfExp, ast.Call, ast.Attribute, ast.Subscript, ast.Slice, ast.ListComp, ast.Name, ast.JoinedStr,
               ast.FormattedValue, ast.Lambda)
PARTS = (ast.Module, ast.arguments, ast.arg, ast.keyword, ast.alias, ast.comprehension, ast.expr_context, ast.operator,
         ast.unaryop, ast.boolop, ast.cmpop)
OWN_NAMES = """len range enumerate zip min max sum abs sorted reversed int str bool list tuple dict set frozenset
    isinstance ord repr any all divmod Exception ValueError TypeError KeyError IndexError LookupError
    ZeroDivisionError ArithmeticError OverflowError RuntimeError NotImplementedError AttributeError
    StopIteration""".split()
OWN_METHODS = """append clear copy count endswith extend find get index insert isalnum isalpha isdigit islower isspace
    isupper items join keys ljust lower lstrip partition pop remove replace reverse rfind rjust rpartition rsplit
    rstrip setdefault split splitlines startswith strip update upper values zfill bit_length""".split()
UNUSED_NAMES = """register mro elements open input version_info with_traceback add_note attrgetter breakpoint builtins
    compile copyright credits delattr dir eval exec exit gc getattr globals hasattr help id importlib license locals
    methodcaller os quit setattr super type vars sys chr print""".split()
UNUSED_WORDS = """type typing typing_extensions enum Enum IntEnum StrEnum Flag IntFlag Generic Protocol ABC ABCMeta
    namedtuple NamedTuple TypedDict TYPE_CHECKING abstractmethod""".split()
KEYWORDS = {"sorted": ("key", "reverse"), "min": ("key", "default"), "max": ("key", "default"), "sum": ("start",),
            "enumerate": ("start",), "zip": ("strict",)}
TWO_UNDERSCORES = ("__init__", "__eq__", "__repr__", "__str__", "__len__")


def files():
    return sorted(path for path in PACKAGE.iterdir() if path.name != "__pycache__")


def walked(path):
    return list(ast.walk(ast.parse(path.read_text(encoding="utf-8"))))


def drawn_from(path):
    """Each name that the file imports, behind the name of the file that it is imported from."""
    return [(node.module.split(".")[1] + ".py", alias.name) for node in walked(path) if isinstance(node, ast.ImportFrom)
            for alias in node.names]


def bound_names(path):
    """Each name that the file gives a meaning: names assigned, parameters, defs, classes, imports."""
    for node in walked(path):
        if isinstance(node, ast.Name) and isinstance(node.ctx, ast.Store):
            yield node.id
        elif isinstance(node, ast.arg):
            yield node.arg
        elif isinstance(node, (ast.FunctionDef, ast.ClassDef)):
            yield node.name
        elif isinstance(node, ast.alias):
            yield node.asname or node.name


class Form(unittest.TestCase):
    def test_files(self):
        self.assertEqual([path.name for path in files()], ["__init__.py", "asking.py", "order.py", "questions.py", "rows.py",
                                                          "told.py"])

    def test_signs_and_size(self):
        for path in files():
            text = path.read_bytes().decode("utf-8")
            self.assertTrue(text.endswith("\n"))
            self.assertTrue(all(sign == "\n" or " " <= sign <= "~" for sign in text), path)
            self.assertLessEqual(text.count("\n"), 399)
            self.assertLessEqual(max(len(line) for line in text.split("\n")), 120)
            for node in walked(path):
                if isinstance(node, ast.FunctionDef):
                    self.assertLessEqual(node.end_lineno - node.lineno + 1, 40, node.name)

    def test_kinds_of_statements_and_expressions(self):
        for path in files():
            for node in walked(path):
                self.assertIsInstance(node, STATEMENTS + EXPRESSIONS + PARTS, (path, getattr(node, "lineno", 0)))
                self.assertNotIsInstance(node, (ast.Div, ast.MatMult, ast.Starred), path)
                if isinstance(node, ast.Assign):
                    self.assertEqual(len(node.targets), 1)
                if isinstance(node, (ast.For, ast.While)):
                    self.assertEqual(node.orelse, [])
                if isinstance(node, ast.Constant):
                    self.assertIn(type(node.value), (int, str, bool, type(None)))
                if isinstance(node, ast.ListComp):
                    self.assertEqual(len(node.generators), 1)
                    self.assertLessEqual(len(node.generators[0].ifs), 1)
                if isinstance(node, ast.FunctionDef):
                    self.assertEqual((node.decorator_list, node.args.vararg, node.args.kwarg, node.args.kwonlyargs),
                                     ([], None, None, []))
                if isinstance(node, ast.Compare) and any(isinstance(op, (ast.Is, ast.IsNot)) for op in node.ops):
                    self.assertIsInstance(node.comparators[-1], ast.Constant)

    def test_power_has_a_written_exponent(self):
        for path in files():
            for node in walked(path):
                if isinstance(node, ast.BinOp) and isinstance(node.op, ast.Pow):
                    self.assertIsInstance(node.right, ast.Constant)

    def test_imports(self):
        for path in files():
            for node in walked(path):
                if isinstance(node, ast.ImportFrom):
                    self.assertEqual(node.level, 0)
                    self.assertTrue(node.module.startswith("openorder."), node.module)
                    self.assertIn(PACKAGE / (node.module.split(".")[1] + ".py"), files())
                    self.assertNotIn("*", [alias.name for alias in node.names])

    def test_imports_come_from_the_file_that_defines_the_name(self):
        for path in files():
            for module, name in drawn_from(path):
                body = ast.parse((PACKAGE / module).read_text(encoding="utf-8")).body
                self.assertIn(name, [node.name for node in body if isinstance(node, (ast.FunctionDef, ast.ClassDef))])

    def test_every_import_is_used(self):
        for path in files():
            used = [node.id for node in walked(path) if isinstance(node, ast.Name)]
            for module, name in drawn_from(path):
                self.assertIn(name, used, path)

    def test_no_two_files_draw_from_one_another(self):
        waiting = {path.name: {module for module, name in drawn_from(path)} for path in files()}
        while waiting:
            ready = [name for name, modules in waiting.items() if not modules & set(waiting)]
            self.assertTrue(ready, waiting)
            waiting = {name: modules for name, modules in waiting.items() if name not in ready}

    def test_no_local_is_called_like_a_class_or_an_import_of_its_file(self):
        for path in files():
            taken = [name for module, name in drawn_from(path)]
            taken += [node.name for node in walked(path) if isinstance(node, ast.ClassDef)]
            local = [node.id for node in walked(path) if isinstance(node, ast.Name) and isinstance(node.ctx, ast.Store)]
            local += [node.arg for node in walked(path) if isinstance(node, ast.arg)]
            self.assertEqual(set(taken) & set(local), set(), path)

    def test_no_annotations_and_no_keywords_but_those_of_sorted_and_its_like(self):
        for path in files():
            for node in walked(path):
                if isinstance(node, ast.arg):
                    self.assertIsNone(node.annotation)
                if isinstance(node, ast.FunctionDef):
                    self.assertIsNone(node.returns)
                if isinstance(node, ast.Call) and node.keywords:
                    self.assertIn(node.func.id, KEYWORDS)
                    self.assertLessEqual({keyword.arg for keyword in node.keywords}, set(KEYWORDS[node.func.id]))

    def test_names(self):
        python_names = set(dir(builtins))
        for path in files():
            bound = set(bound_names(path))
            for name in bound:
                self.assertTrue(name in TWO_UNDERSCORES or re.fullmatch("[A-Za-z][A-Za-z0-9_]*", name), name)
                self.assertNotIn(name, python_names)
            for node in walked(path):
                if isinstance(node, ast.Name):
                    self.assertTrue(node.id in bound or node.id in OWN_NAMES, (path, node.id))
                    self.assertNotIn(node.id, UNUSED_NAMES)

    def test_methods(self):
        own = [node.name for path in files() for node in walked(path) if isinstance(node, ast.FunctionDef)]
        kept = [node.attr for path in files() for node in walked(path)
                if isinstance(node, ast.Attribute) and isinstance(node.ctx, ast.Store)]
        self.assertEqual(set(own) & set(kept), set())
        for path in files():
            for node in walked(path):
                if isinstance(node, ast.Attribute):
                    self.assertIn(node.attr, own + kept + OWN_METHODS)
                    self.assertNotIn(node.attr, UNUSED_NAMES)

    def test_words_that_stand_nowhere(self):
        for path in files():
            text = path.read_text(encoding="utf-8")
            self.assertEqual(set(re.findall("[A-Za-z0-9_]+", text)) & set(UNUSED_WORDS), set())
            for word in ("dataclass", "overload", "contextmanager"):
                self.assertNotIn(word, text)

    def test_the_top_of_a_file(self):
        for path in files():
            body = ast.parse(path.read_text(encoding="utf-8")).body
            self.assertIsNotNone(ast.get_docstring(ast.parse(path.read_text(encoding="utf-8"))))
            names = [node.targets[0].id for node in body if isinstance(node, ast.Assign)]
            names += [node.name for node in body if isinstance(node, (ast.FunctionDef, ast.ClassDef))]
            self.assertEqual(len(names), len(set(names)))
            for node in body[1:]:
                self.assertIsInstance(node, (ast.Assign, ast.FunctionDef, ast.ClassDef, ast.ImportFrom))

    def test_the_interface_is_a_plain_def_in_its_own_file(self):
        found = [(path.name, node.name, [arg.arg for arg in node.args.args], node.args.defaults)
                 for path in files() for node in ast.parse(path.read_text(encoding="utf-8")).body
                 if isinstance(node, ast.FunctionDef) and node.name == "answers"]
        self.assertEqual(found, [("questions.py", "answers", ["calls"], [])])


if __name__ == "__main__":
    unittest.main()

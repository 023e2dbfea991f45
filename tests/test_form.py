"""The form of the package's own files, as far as a test can see it (the rules' numbers stand by each test)."""

import ast
import builtins
import pathlib
import re
import unittest

PACKAGE = pathlib.Path(__file__).resolve().parent.parent / "singlemail"
WORDS_OUT = ("type typing typing_extensions enum Enum IntEnum StrEnum Flag IntFlag Generic Protocol ABC ABCMeta "
             "namedtuple NamedTuple TypedDict TYPE_CHECKING abstractmethod").split()
WITHIN_WORDS_OUT = ("dataclass", "overload", "contextmanager")
NODES_OUT = (ast.With, ast.Match, ast.Delete, ast.Global, ast.Nonlocal, ast.Assert, ast.Yield, ast.YieldFrom,
             ast.AsyncFunctionDef, ast.Await, ast.SetComp, ast.DictComp, ast.GeneratorExp, ast.NamedExpr,
             ast.Starred, ast.Div, ast.Import, ast.AnnAssign)
NAMES_IN = ("len range enumerate zip min max sum abs sorted reversed int str bool list tuple dict set frozenset "
            "isinstance ord repr any all divmod").split()
METHODS_IN = ("append clear copy count endswith extend find get index insert items join keys pop remove replace reverse "
              "setdefault split startswith strip update values bit_length").split()
WALKED_AT_ONCE = ("zip", "enumerate", "reversed", "range")
METHODS_OUT = ("sort", "popitem", "format", "encode", "register", "mro", "elements", "open", "input")


class Form(unittest.TestCase):
    def setUp(self):
        files = sorted(path for path in PACKAGE.rglob("*") if "__pycache__" not in path.parts)
        self.assertTrue(all(re.fullmatch(r"[a-z0-9_]+\.py", path.name) for path in files), files)
        self.texts = {path.name: path.read_text(encoding="utf-8") for path in files}
        self.assertIn("stack.py", self.texts)

    def nodes(self):
        for name, text in self.texts.items():
            for node in ast.walk(ast.parse(text)):
                yield f"{name}:{getattr(node, 'lineno', 0)}", node

    def test_size_and_signs(self):
        """L10, L14"""
        for name, text in self.texts.items():
            rows = text.split("\n")
            self.assertLessEqual(len(rows), 401, name)
            self.assertLessEqual(max(len(row) for row in rows), 120, name)
            self.assertIsNone(re.search(r"[^ -~\n]", text), name)

    def test_functions_are_short(self):
        """L10"""
        for place, node in self.nodes():
            if isinstance(node, ast.FunctionDef):
                self.assertLessEqual(node.end_lineno - node.lineno + 1, 40, place)

    def test_words_that_stand_nowhere(self):
        """L17"""
        for name, text in self.texts.items():
            self.assertEqual([word for word in re.findall(r"\w+", text) if word in WORDS_OUT], [], name)
            self.assertEqual([word for word in WITHIN_WORDS_OUT if word in text], [], name)

    def test_imports(self):
        """L2, L16"""
        for place, node in self.nodes():
            if isinstance(node, ast.ImportFrom):
                self.assertEqual(node.level, 0, place)
                self.assertTrue(node.module.startswith("singlemail."), place)
                self.assertNotIn("*", [alias.name for alias in node.names], place)

    def test_statements_and_expressions(self):
        """L4, L6, L7, L21"""
        for place, node in self.nodes():
            self.assertNotIsInstance(node, NODES_OUT, place)
            if isinstance(node, (ast.For, ast.While)):
                self.assertEqual(node.orelse, [], place)
            if isinstance(node, ast.Assign):
                self.assertEqual(len(node.targets), 1, place)
                self.assertNotIsInstance(node.targets[0], (ast.Tuple, ast.List), place)
            if isinstance(node, (ast.FunctionDef, ast.ClassDef)):
                self.assertEqual(node.decorator_list, [], place)
            if isinstance(node, ast.Constant):
                self.assertNotIsInstance(node.value, (float, bytes), place)

    def test_names(self):
        """L12, L17, L26"""
        for place, node in self.nodes():
            if isinstance(node, ast.Name):
                self.assertFalse(node.id.startswith("_"), place)
            if isinstance(node, ast.Attribute):
                self.assertFalse(node.attr.startswith("_"), place)
                self.assertNotIn(node.attr, METHODS_OUT, place)

    def test_pythons_own_names(self):
        """L8, L15: those listed alone, and none of Python's own given another meaning"""
        for place, node in self.nodes():
            if isinstance(node, ast.Name) and hasattr(builtins, node.id):
                self.assertIn(node.id, NAMES_IN, place)
                self.assertIsInstance(node.ctx, ast.Load, place)
            if isinstance(node, ast.arg):
                self.assertFalse(hasattr(builtins, node.arg), place)

    def test_no_local_is_called_like_an_import_or_a_def(self):
        """L15"""
        for name, text in self.texts.items():
            tree = ast.parse(text)
            tops = {alias.name for node in tree.body if isinstance(node, ast.ImportFrom) for alias in node.names}
            tops |= {node.name for node in tree.body if isinstance(node, (ast.FunctionDef, ast.ClassDef))}
            for node in ast.walk(tree):
                if isinstance(node, ast.arg):
                    self.assertNotIn(node.arg, tops, f"{name}:{node.lineno}")
                if isinstance(node, ast.Name) and isinstance(node.ctx, ast.Store):
                    self.assertNotIn(node.id, tops, f"{name}:{node.lineno}")

    def test_methods(self):
        """L25: of Python's own values those listed, else the package's own"""
        own = {item.name for _, node in self.nodes() if isinstance(node, ast.ClassDef) for item in node.body
               if isinstance(item, ast.FunctionDef)}
        for place, node in self.nodes():
            if isinstance(node, ast.Call) and isinstance(node.func, ast.Attribute):
                self.assertIn(node.func.attr, own | set(METHODS_IN), place)

    def test_walked_at_once(self):
        """L23: none is given a name, handed to another or given back"""
        walked = set()
        for _, node in self.nodes():
            if isinstance(node, (ast.For, ast.comprehension)):
                walked.add(ast.unparse(node.iter))
        for place, node in self.nodes():
            if isinstance(node, ast.Call) and isinstance(node.func, ast.Name) and node.func.id in WALKED_AT_ONCE:
                self.assertIn(ast.unparse(node), walked, place)

    def test_no_two_files_draw_from_one_another(self):
        """L16"""
        drawn = {}
        for name, text in self.texts.items():
            drawn[name] = {node.module.split(".")[-1] + ".py" for node in ast.walk(ast.parse(text))
                           if isinstance(node, ast.ImportFrom)}
        for name in drawn:
            reached = set(drawn[name])
            for step in drawn:
                reached |= {further for other in reached for further in drawn[other]}
            self.assertNotIn(name, reached)

    def test_no_name_is_a_method_and_a_value(self):
        """L18"""
        methods = set()
        values = set()
        for _, node in self.nodes():
            if isinstance(node, ast.ClassDef):
                methods.update(item.name for item in node.body if isinstance(item, ast.FunctionDef))
            if isinstance(node, ast.Attribute) and isinstance(node.ctx, ast.Store):
                values.add(node.attr)
        self.assertEqual(methods & values, set())


if __name__ == "__main__":
    unittest.main()

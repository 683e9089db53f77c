"""The package's files keep to the small part of Python that the program is written in, as far as a test can see."""

import ast
import builtins
import pathlib
import re
import unittest

PACKAGE = pathlib.Path(__file__).resolve().parent.parent / "scoretexts"

BUILTINS = set("""len range enumerate zip min max sum abs sorted reversed int str bool list tuple dict set frozenset
isinstance ord repr any all divmod Exception ValueError TypeError KeyError IndexError LookupError ZeroDivisionError
ArithmeticError OverflowError RuntimeError NotImplementedError AttributeError StopIteration""".split())

METHODS = set("""append clear copy count endswith extend find get index insert isalnum isalpha isdigit islower isspace
isupper items join keys ljust lower lstrip partition pop remove replace reverse rfind rjust rpartition rsplit rstrip
setdefault split splitlines startswith strip update upper values zfill bit_length""".split())

WORDS = re.compile(r"\b(type|typing|typing_extensions|enum|Enum|IntEnum|StrEnum|Flag|IntFlag|Generic|Protocol|ABC|"
                   r"ABCMeta|namedtuple|NamedTuple|TypedDict|TYPE_CHECKING|abstractmethod)\b|"
                   r"dataclass|overload|contextmanager")

NODES = set("""Module ImportFrom alias FunctionDef ClassDef arguments arg Assign AugAssign If While For Return Break
Continue Pass Raise Try ExceptHandler Expr Name Load Store Constant List Tuple Dict BinOp UnaryOp BoolOp Compare IfExp
Call Attribute Subscript Slice ListComp comprehension Add Sub Mult FloorDiv Mod And Or Not USub Eq NotEq Lt LtE Gt GtE
Is IsNot In NotIn""".split())


def is_plain(node):
    if isinstance(node, ast.UnaryOp):
        return isinstance(node.op, ast.USub) and is_plain(node.operand)
    if isinstance(node, (ast.Tuple, ast.List)):
        return all(is_plain(inner) for inner in node.elts)
    if isinstance(node, ast.Dict):
        return all(is_plain(inner) for inner in node.keys + node.values)
    return isinstance(node, ast.Constant) and isinstance(node.value, (int, str, type(None)))


class Language(unittest.TestCase):
    def setUp(self):
        self.sources = {path.stem: path.read_text("utf-8") for path in sorted(PACKAGE.glob("*.py"))}
        self.trees = {name: ast.parse(source) for name, source in self.sources.items()}
        self.tops = {name: self.top_names(tree) for name, tree in self.trees.items()}
        self.own_methods = {node.name for tree in self.trees.values() for part in tree.body
                            if isinstance(part, ast.ClassDef) for node in part.body}

    def top_names(self, tree):
        names = []
        for node in tree.body:
            if isinstance(node, (ast.FunctionDef, ast.ClassDef)):
                names.append(node.name)
            elif isinstance(node, ast.Assign):
                names.append(node.targets[0].id)
        return names

    def nodes(self):
        return [(name, node) for name, tree in self.trees.items() for node in ast.walk(tree)]

    def test_files(self):
        lying = [path.name for path in PACKAGE.iterdir() if path.name != "__pycache__"]
        self.assertEqual(sorted(lying), sorted(f"{name}.py" for name in self.sources))
        self.assertIn("__init__.py", lying)
        for name in lying:
            self.assertRegex(name, r"^([a-z][a-z0-9_]*|__init__|__main__)\.py$")

    def test_signs_words_and_sizes(self):
        for name, source in self.sources.items():
            self.assertRegex(source, r"\A[ -~\n]*\Z", name)
            self.assertIsNone(WORDS.search(source), name)
            lines = source.splitlines()
            self.assertLessEqual(len(lines), 399, name)
            self.assertLessEqual(max(len(line) for line in lines), 120, name)

    def test_only_the_nodes_of_the_language(self):
        for name, node in self.nodes():
            self.assertIn(type(node).__name__, NODES, f"{name}: {ast.dump(node)}")

    def test_the_top_of_a_file(self):
        for name, tree in self.trees.items():
            self.assertIsNotNone(ast.get_docstring(tree), name)
            for node in tree.body[1:]:
                self.assertIsInstance(node, (ast.ImportFrom, ast.FunctionDef, ast.ClassDef, ast.Assign), name)
                if isinstance(node, ast.Assign):
                    self.assertTrue(is_plain(node.value), f"{name}: {node.lineno}")
            self.assertEqual(len(self.tops[name]), len(set(self.tops[name])), name)

    def test_imports(self):
        drawn = {name: set() for name in self.trees}
        for name, node in self.nodes():
            if isinstance(node, ast.ImportFrom):
                self.assertEqual(node.level, 0)
                self.assertRegex(node.module, r"^scoretexts\.\w+$")
                drawn[name].add(node.module.partition(".")[2])
                for alias in node.names:
                    self.assertIn(alias.name, self.tops[node.module.partition(".")[2]])
                    self.assertIsNone(alias.asname)
        while drawn:
            free = [name for name, others in drawn.items() if not others & set(drawn)]
            self.assertTrue(free, f"these draw from one another: {sorted(drawn)}")
            for name in free:
                del drawn[name]

    def test_functions_and_classes(self):
        for name, node in self.nodes():
            if isinstance(node, ast.FunctionDef):
                self.assertLessEqual(node.end_lineno - node.lineno + 1, 40, node.name)
                given = node.args
                self.assertFalse(given.vararg or given.kwarg or given.kwonlyargs or given.posonlyargs, node.name)
                self.assertFalse(node.decorator_list or given.defaults, node.name)
                self.assertFalse(isinstance(node.body[0], ast.Expr) and not isinstance(node.body[0].value, ast.Call))
            if isinstance(node, ast.ClassDef):
                self.assertFalse(node.decorator_list or node.keywords or len(node.bases) > 1, node.name)
                self.assertTrue(all(isinstance(inner, ast.FunctionDef) for inner in node.body), node.name)

    def test_statements(self):
        for name, node in self.nodes():
            where = f"{name}: {getattr(node, 'lineno', 0)}"
            if isinstance(node, (ast.For, ast.While)):
                self.assertFalse(node.orelse, where)
            if isinstance(node, ast.Assign):
                self.assertEqual(len(node.targets), 1, where)
                self.assertNotIsInstance(node.targets[0], ast.Tuple, where)
            if isinstance(node, ast.Try):
                self.assertFalse(node.finalbody, where)
                self.assertEqual([handler.type.id for handler in node.handlers], ["Fault"], where)
            if isinstance(node, ast.Compare) and isinstance(node.ops[0], (ast.Is, ast.IsNot)):
                self.assertIn(node.comparators[0].value, (None, True, False), where)
            if isinstance(node, ast.ListComp):
                self.assertEqual(len(node.generators), 1, where)
                self.assertLessEqual(len(node.generators[0].ifs), 1, where)
            if isinstance(node, ast.Constant):
                self.assertIsInstance(node.value, (int, str, type(None)), where)
                self.assertNotIn("%", str(node.value), where)
            if isinstance(node, ast.Call):
                self.assertFalse(node.keywords, where)

    def test_names(self):
        for name, tree in self.trees.items():
            imported = [alias.name for node in tree.body if isinstance(node, ast.ImportFrom) for alias in node.names]
            top = set(self.tops[name] + imported)
            for function in [node for node in ast.walk(tree) if isinstance(node, ast.FunctionDef)]:
                inner = [node for node in ast.walk(function)]
                bound = {node.arg for node in inner if isinstance(node, ast.arg)}
                bound |= {node.id for node in inner if isinstance(node, ast.Name) and isinstance(node.ctx, ast.Store)}
                bound |= {node.name for node in inner if isinstance(node, ast.ExceptHandler) and node.name}
                self.assertFalse(bound & (top | BUILTINS | set(dir(builtins))), f"{name}: {function.name}")
                for word in bound:
                    self.assertRegex(word, r"^[a-z][a-z0-9_]*$")
                for node in inner:
                    if isinstance(node, ast.Name) and isinstance(node.ctx, ast.Load):
                        self.assertIn(node.id, bound | top | BUILTINS, f"{name}: {node.lineno}")

    def test_methods_and_values(self):
        stored = set()
        for name, node in self.nodes():
            if isinstance(node, ast.Call) and isinstance(node.func, ast.Attribute):
                self.assertIn(node.func.attr, METHODS | self.own_methods, f"{name}: {node.lineno}")
            if isinstance(node, ast.Attribute):
                self.assertFalse(node.attr.startswith("_"), f"{name}: {node.lineno}")
                if isinstance(node.ctx, ast.Store):
                    stored.add(node.attr)
        self.assertFalse(stored & self.own_methods)
        for kind in (str, int, list, tuple, dict, set, bytes):
            self.assertFalse((stored | self.own_methods - {"__init__"}) & set(dir(kind)))

    def test_the_interface(self):
        found = [name for name, names in self.tops.items() if "answers" in names]
        self.assertEqual(found, ["score"])
        function = next(node for node in self.trees["score"].body if getattr(node, "name", "") == "answers")
        self.assertEqual([given.arg for given in function.args.args], ["calls"])

"""The package's own files keep to the small part of Python that the program is written in."""

import ast
import builtins
import pathlib
import re
import unittest

FOLDER = pathlib.Path(__file__).resolve().parent.parent / "grooveway"
# In the order of the interface: each module uses those above it alone.
MODULES = ["errors", "rules", "pages", "rooms", "least", "counts", "blocks", "solve", "weights", "parts", "web",
           "split", "table", "writing", "windows", "judge", "tables", "whole"]
NODES = """
    Module FunctionDef ClassDef ImportFrom alias arguments arg Assign AugAssign If While For Return Break Continue
    Pass Raise Try ExceptHandler Expr Call keyword Name Attribute Subscript Slice Constant List Tuple Dict Set
    ListComp comprehension Lambda IfExp JoinedStr FormattedValue BinOp UnaryOp BoolOp Compare Load Store Add Sub
    Mult FloorDiv Mod Pow BitAnd BitOr BitXor LShift RShift Invert UAdd USub Not And Or Eq NotEq Lt LtE Gt GtE Is
    IsNot In NotIn
""".split()
PYTHONS_OWN = """
    len range enumerate zip min max sum abs sorted reversed int str bool list tuple dict set frozenset isinstance
    ord repr any all divmod Exception ValueError TypeError KeyError IndexError LookupError ZeroDivisionError
    ArithmeticError OverflowError RuntimeError NotImplementedError StopIteration
""".split()
METHODS = """
    append clear copy count endswith extend find get index insert isalnum isalpha isdigit islower isspace isupper
    items join keys ljust lower lstrip partition pop remove replace reverse rfind rjust rpartition rsplit rstrip
    setdefault split splitlines startswith strip update upper values zfill bit_length
""".split()
WORDS = ("type typing typing_extensions enum Enum IntEnum StrEnum Flag IntFlag Generic Protocol ABC ABCMeta namedtuple "
         "NamedTuple TypedDict TYPE_CHECKING abstractmethod").split()
LONE_WORDS = re.compile(r"\b(" + "|".join(WORDS) + r")\b|dataclass|overload|contextmanager")
WALKED_AT_ONCE = "zip enumerate reversed range".split()
WALKED_METHODS = "items keys values".split()
WALKERS = "list tuple dict sorted sum any all enumerate zip min max".split()
KEYWORDS = {"sorted": ["key", "reverse"], "min": ["key", "default"], "max": ["key", "default"], "sum": ["start"],
            "enumerate": ["start"], "zip": ["strict"]}
NOT_AS_NAMES = """
    register mro elements open input version_info with_traceback add_note attrgetter breakpoint builtins compile
    copyright credits delattr dir eval exec exit gc getattr globals hasattr help id importlib license locals
    methodcaller os quit setattr super vars sys __name__ chr set frozenset
""".split()
PLAIN_NAME = re.compile(r"[A-Za-z][A-Za-z0-9_]*\Z")


def files():
    return sorted(FOLDER.glob("*.py"))


def parsed(path):
    return ast.parse(path.read_text(encoding="ascii"))


def nodes_of(path, kind):
    return [node for node in ast.walk(parsed(path)) if isinstance(node, kind)]


def nodes_of_one_tree(path, kind, trees={}):
    """As nodes_of, but of one tree each time, so that nodes can be told apart by what they are."""
    tree = trees.setdefault(path, parsed(path))
    return [node for node in ast.walk(tree) if isinstance(node, kind)]


def names_bound(path):
    names = [node.id for node in nodes_of(path, ast.Name) if isinstance(node.ctx, ast.Store)]
    names += [node.arg for node in nodes_of(path, ast.arg)]
    names += [node.name for node in nodes_of(path, (ast.FunctionDef, ast.ClassDef))]
    return [name for name in names if name != "__init__"]


class FormTest(unittest.TestCase):
    def test_nothing_but_python_files_lies_in_the_package(self):
        for path in FOLDER.iterdir():
            self.assertTrue(path.name == "__pycache__" or re.match(r"[a-z0-9_]+\.py\Z", path.name), path.name)
        self.assertIn(FOLDER / "__init__.py", files())

    def test_signs_and_lengths(self):
        for path in files():
            text = path.read_bytes().decode("ascii")
            self.assertEqual(re.findall(r"[^ -~\n]", text), [], path.name)
            self.assertLessEqual(len(text.splitlines()), 400, path.name)
            self.assertLessEqual(max(len(line) for line in text.splitlines()), 120, path.name)
            self.assertIsNone(LONE_WORDS.search(text), path.name)
            for node in nodes_of(path, ast.FunctionDef):
                self.assertLessEqual(node.end_lineno - node.lineno + 1, 40, (path.name, node.name))

    def test_only_plain_statements_and_expressions(self):
        for path in files():
            tree = parsed(path)
            for node in ast.walk(tree):
                self.assertIn(type(node).__name__, NODES, (path.name, getattr(node, "lineno", 0)))
            for node in ast.walk(tree):
                where = (path.name, getattr(node, "lineno", 0))
                if isinstance(node, ast.Expr) and node is not tree.body[0]:
                    self.assertIsInstance(node.value, ast.Call, where)
                if isinstance(node, ast.FormattedValue):
                    self.assertIsInstance(node.value, ast.Name, where)
                if isinstance(node, ast.Constant) and isinstance(node.value, str):
                    self.assertNotIn("%", node.value, where)
                if isinstance(node, ast.Constant):
                    self.assertIn(type(node.value), (int, str, bool, type(None)), where)
                if isinstance(node, (ast.For, ast.While)):
                    self.assertEqual(node.orelse, [], where)
                if isinstance(node, ast.Assign):
                    self.assertEqual([type(target) == ast.Tuple for target in node.targets], [False], where)

    def test_functions_and_classes(self):
        for path in files():
            for node in nodes_of(path, (ast.FunctionDef, ast.ClassDef)):
                self.assertEqual(node.decorator_list, [], (path.name, node.name))
            for node in nodes_of(path, ast.arguments):
                self.assertEqual([node.vararg, node.kwarg, node.kwonlyargs, node.posonlyargs], [None, None, [], []])
            for node in nodes_of(path, ast.ClassDef):
                self.assertLessEqual(len(node.bases), 1, (path.name, node.name))
                for part in node.body:
                    self.assertIsInstance(part, (ast.FunctionDef, ast.Pass), (path.name, node.name))

    def test_names(self):
        for path in files():
            for name in names_bound(path):
                self.assertRegex(name, PLAIN_NAME, path.name)
                self.assertFalse(hasattr(builtins, name), (path.name, name))
            for node in nodes_of(path, ast.Name):
                if hasattr(builtins, node.id):
                    self.assertIn(node.id, PYTHONS_OWN, (path.name, node.lineno))

    def test_methods_that_are_called(self):
        own = [node.name for path in files() for node in nodes_of(path, ast.FunctionDef)]
        for path in files():
            for node in nodes_of(path, ast.Call):
                if isinstance(node.func, ast.Attribute):
                    self.assertIn(node.func.attr, METHODS + own, (path.name, node.lineno))

    def test_methods_are_not_handed_on(self):
        for path in files():
            called = [node.func for node in nodes_of_one_tree(path, ast.Call)]
            for node in nodes_of_one_tree(path, ast.Attribute):
                if node.attr in METHODS:
                    self.assertIn(node, called, (path.name, node.lineno))

    def test_names_that_are_not_used(self):
        for path in files():
            used = [node.id for node in nodes_of(path, ast.Name)] + [node.attr for node in nodes_of(path, ast.Attribute)]
            used += names_bound(path)
            self.assertEqual([name for name in used if name in NOT_AS_NAMES], [], path.name)
            self.assertEqual(nodes_of(path, (ast.Set, ast.AnnAssign)), [], path.name)

    def test_no_local_is_called_like_a_class_or_an_import(self):
        for path in files():
            taken = [alias.asname or alias.name for node in nodes_of(path, ast.ImportFrom) for alias in node.names]
            taken += [node.name for node in nodes_of(path, ast.ClassDef)]
            bound = [node.id for node in nodes_of(path, ast.Name) if isinstance(node.ctx, ast.Store)]
            bound += [node.arg for node in nodes_of(path, ast.arg)]
            bound += [node.name for node in nodes_of(path, ast.FunctionDef)]
            self.assertEqual([name for name in bound if name in taken], [], path.name)

    def test_each_name_of_a_top_is_bound_once(self):
        for path in files():
            names = []
            for node in parsed(path).body:
                if isinstance(node, ast.ImportFrom):
                    names += [alias.name for alias in node.names]
                if isinstance(node, (ast.FunctionDef, ast.ClassDef)):
                    names.append(node.name)
                if isinstance(node, ast.Assign):
                    names.append(node.targets[0].id)
            self.assertEqual(len(names), len(set(names)), path.name)

    def test_imports_are_from_the_file_that_defines_the_name_and_are_used(self):
        for path in files():
            used = [node.id for node in nodes_of(path, ast.Name)]
            for node in nodes_of(path, ast.ImportFrom):
                defined = parsed(FOLDER / (node.module.split(".")[1] + ".py")).body
                names = [each.name for each in defined if isinstance(each, (ast.FunctionDef, ast.ClassDef))]
                names += [each.targets[0].id for each in defined if isinstance(each, ast.Assign)]
                for alias in node.names:
                    self.assertIn(alias.name, names, (path.name, node.lineno))
                    self.assertIn(alias.name, used, (path.name, node.lineno))

    def test_ranges_and_their_like_are_walked_at_once(self):
        for path in files():
            tree = parsed(path)
            walked = [node.iter for node in ast.walk(tree) if isinstance(node, (ast.For, ast.comprehension))]
            for node in ast.walk(tree):
                if isinstance(node, ast.Call) and isinstance(node.func, ast.Name) and node.func.id in WALKERS:
                    walked.extend(node.args)
            for node in ast.walk(tree):
                if isinstance(node, ast.Call):
                    name = getattr(node.func, "id", None)
                    method = getattr(node.func, "attr", None)
                    if name in WALKED_AT_ONCE or method in WALKED_METHODS:
                        self.assertIn(node, walked, (path.name, node.lineno))

    def test_keywords_at_pythons_own_names(self):
        for path in files():
            for node in nodes_of(path, ast.Call):
                name = getattr(node.func, "id", None)
                keywords = [keyword.arg for keyword in node.keywords]
                if name in PYTHONS_OWN:
                    self.assertTrue(set(keywords) <= set(KEYWORDS.get(name, [])), (path.name, node.lineno))
                if getattr(node.func, "attr", None) in METHODS:
                    self.assertEqual(keywords, [], (path.name, node.lineno))

    def test_is_stands_beside_none_true_and_false_alone(self):
        for path in files():
            for node in nodes_of(path, ast.Compare):
                if any(isinstance(sign, (ast.Is, ast.IsNot)) for sign in node.ops):
                    right = node.comparators[-1]
                    self.assertIsInstance(right, ast.Constant, (path.name, node.lineno))
                    self.assertIn(right.value, (None, True, False), (path.name, node.lineno))

    def test_powers_have_a_written_exponent_and_errors_are_the_programs_own(self):
        for path in files():
            for node in nodes_of(path, ast.BinOp):
                if isinstance(node.op, ast.Pow):
                    self.assertIsInstance(node.right, ast.Constant, (path.name, node.lineno))
            for node in nodes_of(path, ast.ExceptHandler):
                self.assertIsInstance(node.type, ast.Name, (path.name, node.lineno))
                self.assertIn(node.type.id, [each.name for each in nodes_of(FOLDER / "errors.py", ast.ClassDef)])

    def test_comprehensions_have_one_for_and_at_most_one_if(self):
        for path in files():
            for node in nodes_of(path, ast.ListComp):
                self.assertEqual(len(node.generators), 1, (path.name, node.lineno))
                self.assertLessEqual(len(node.generators[0].ifs), 1, (path.name, node.lineno))

    def test_no_name_is_both_a_method_and_a_value(self):
        methods, values = set(), set()
        for path in files():
            for node in nodes_of(path, ast.ClassDef):
                methods.update(part.name for part in node.body if isinstance(part, ast.FunctionDef))
            values.update(node.attr for node in nodes_of(path, ast.Attribute) if isinstance(node.ctx, ast.Store))
        self.assertEqual(methods & values, set())

    def test_each_module_uses_those_above_it_alone(self):
        self.assertEqual(nodes_of(FOLDER / "__init__.py", ast.ImportFrom), [])
        for place, name in enumerate(MODULES):
            path = FOLDER / (name + ".py")
            if path.exists():
                above = ["grooveway." + other for other in MODULES[:place]]
                for node in nodes_of(path, ast.ImportFrom):
                    self.assertIn(node.module, above, (name, node.lineno))


if __name__ == "__main__":
    unittest.main()

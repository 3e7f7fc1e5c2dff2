"""The rules of the language that can be seen in the files' text and form; the others are kept by eye."""

import ast
import builtins
import pathlib
import re
import unittest

FOLDER = pathlib.Path(__file__).resolve().parent.parent / "musicbox"
FILES = sorted(FOLDER.glob("*.py"))
TREES = {path.stem: ast.parse(path.read_text(encoding="ascii")) for path in FILES}

FORMS = (
    "Module Expr Import ImportFrom alias FunctionDef ClassDef arguments arg Assign AugAssign If While For Return Break "
    "Continue Pass Raise Try ExceptHandler Call Attribute Subscript Slice Name Constant List Tuple Dict BinOp UnaryOp "
    "BoolOp Compare IfExp ListComp comprehension JoinedStr FormattedValue Lambda keyword Load Store And Or Not USub "
    "Invert Add Sub Mult FloorDiv Mod Pow LShift RShift BitOr BitXor BitAnd Eq NotEq Lt LtE Gt GtE Is IsNot In NotIn"
).split()
OWN_NAMES = (
    "len range enumerate zip min max sum abs sorted reversed int str bool list tuple dict set frozenset isinstance ord "
    "repr any all divmod Exception ValueError TypeError KeyError IndexError LookupError ZeroDivisionError "
    "ArithmeticError OverflowError RuntimeError NotImplementedError AttributeError StopIteration"
).split()
OWN_METHODS = (
    "append clear copy count endswith extend find get index insert isalnum isalpha isdigit islower isspace isupper items "
    "join keys ljust lower lstrip partition pop remove replace reverse rfind rjust rpartition rsplit rstrip setdefault "
    "split splitlines startswith strip update upper values zfill bit_length"
).split()
WORDS = (
    "type typing typing_extensions enum Enum IntEnum StrEnum Flag IntFlag Generic Protocol ABC ABCMeta namedtuple "
    "NamedTuple TypedDict TYPE_CHECKING abstractmethod"
).split()
UNUSED = "register mro elements open input version_info with_traceback add_note format format_map".split()
KEYWORDS = {"sorted": ("key", "reverse"), "min": ("key", "default"), "max": ("key", "default"), "sum": ("start",),
            "enumerate": ("start",), "zip": ("strict",)}
METHODS_OF_CLASSES = "__init__ __eq__ __repr__ __str__ __len__".split()


def nodes(*kinds):
    return [(stem, node) for stem, tree in TREES.items() for node in ast.walk(tree) if isinstance(node, kinds)]


def names_of(node):
    """The names that a node binds or reads."""
    if isinstance(node, ast.Name):
        return [node.id]
    if isinstance(node, ast.Attribute):
        return [node.attr]
    if isinstance(node, (ast.FunctionDef, ast.ClassDef)):
        return [node.name]
    if isinstance(node, ast.arg):
        return [node.arg]
    return []


def top_names(stem):
    """The names that a file's top defines itself."""
    defined = []
    for node in TREES[stem].body:
        if isinstance(node, (ast.FunctionDef, ast.ClassDef)):
            defined.append(node.name)
        if isinstance(node, ast.Assign):
            defined += [target.id for target in node.targets]
    return defined


def imported_from(stem):
    return [node.module.split(".")[1] for node in TREES[stem].body if isinstance(node, ast.ImportFrom)]


class TestFiles(unittest.TestCase):
    def test_only_plain_files_lie_in_the_folder(self):
        for path in FOLDER.iterdir():
            if path.name != "__pycache__":
                self.assertRegex(path.name, r"^[a-z][a-z0-9_]*\.py$|^__init__\.py$")

    def test_signs_and_sizes(self):
        for path in FILES:
            text = path.read_text(encoding="ascii")
            self.assertRegex(text, r"\A[ -~\n]*\Z")
            rows = text.split("\n")
            self.assertLessEqual(len(rows), 400)
            self.assertLessEqual(max(len(row) for row in rows), 120)
        for stem, node in nodes(ast.FunctionDef):
            self.assertLessEqual(node.end_lineno - node.lineno + 1, 40, node.name)

    def test_words_that_stand_nowhere(self):
        for path in FILES:
            text = path.read_text(encoding="ascii")
            self.assertEqual([word for word in re.findall(r"\w+", text) if word in WORDS], [])
            self.assertIsNone(re.search("dataclass|overload|contextmanager", text))


class TestForms(unittest.TestCase):
    def test_the_forms_of_the_language_alone(self):
        for stem, node in nodes(ast.AST):
            self.assertIn(node.__class__.__name__, FORMS, (stem, getattr(node, "lineno", 0)))

    def test_plain_values(self):
        for stem, node in nodes(ast.Constant):
            self.assertIn(node.value.__class__.__name__, ("int", "str", "bool", "NoneType"), stem)
            self.assertNotIn("%", str(node.value), stem)

    def test_one_target_and_no_else_behind_a_loop(self):
        for stem, node in nodes(ast.Assign):
            self.assertEqual(len(node.targets), 1, stem)
        for stem, node in nodes(ast.For, ast.While):
            self.assertEqual(node.orelse, [], stem)

    def test_plain_functions_and_classes(self):
        for stem, node in nodes(ast.FunctionDef):
            self.assertEqual(node.decorator_list, [])
            given = node.args
            self.assertEqual((given.vararg, given.kwarg, given.kwonlyargs, given.posonlyargs), (None, None, [], []))
        for stem, node in nodes(ast.ClassDef):
            self.assertEqual(node.decorator_list, [])
            self.assertIn(node, TREES[stem].body)
            for part in node.body:
                self.assertIsInstance(part, (ast.FunctionDef, ast.Expr))

    def test_plain_values_at_the_top(self):
        for stem, tree in TREES.items():
            for node in tree.body:
                self.assertIsInstance(node, (ast.Expr, ast.ImportFrom, ast.FunctionDef, ast.ClassDef, ast.Assign), stem)
                if isinstance(node, ast.Assign):
                    ast.literal_eval(node.value)

    def test_keywords(self):
        for stem, node in nodes(ast.Call):
            for keyword in node.keywords:
                self.assertIn(keyword.arg, KEYWORDS.get(ast.unparse(node.func), ()), (stem, node.lineno))

    def test_is_stands_beside_none_true_and_false_alone(self):
        for stem, node in nodes(ast.Compare):
            if isinstance(node.ops[0], (ast.Is, ast.IsNot)):
                self.assertIn(ast.unparse(node.comparators[0]), ("None", "True", "False"))


class TestNames(unittest.TestCase):
    def test_imports_are_of_the_very_file_that_defines_the_name(self):
        self.assertEqual(nodes(ast.Import), [])
        for stem, node in nodes(ast.ImportFrom):
            self.assertIn(node, TREES[stem].body)
            package, source = node.module.split(".")
            self.assertEqual((package, node.level), ("musicbox", 0))
            for alias in node.names:
                self.assertIn(alias.name, top_names(source))
                self.assertIsNone(alias.asname)

    def test_no_two_files_draw_from_one_another(self):
        self.assertEqual(imported_from("__init__"), [])
        reached = {stem: set(imported_from(stem)) for stem in TREES}
        for step in TREES:
            for stem in reached:
                reached[stem] = reached[stem].union(*[reached[source] for source in reached[stem]])
        for stem in reached:
            self.assertNotIn(stem, reached[stem])

    def test_plain_names(self):
        for stem, node in nodes(ast.AST):
            for name in names_of(node):
                if name not in METHODS_OF_CLASSES:
                    self.assertRegex(name, r"^[A-Za-z]\w*$", stem)
                self.assertNotIn(name, UNUSED, stem)

    def test_names_of_pythons_own(self):
        for stem, node in nodes(ast.Name):
            if node.id in dir(builtins):
                self.assertIn(node.id, OWN_NAMES, stem)
                self.assertIsInstance(node.ctx, ast.Load, stem)
        for stem, node in nodes(ast.arg):
            self.assertNotIn(node.arg, dir(builtins), stem)

    def test_each_name_of_a_files_top_is_bound_once(self):
        for stem in TREES:
            names = top_names(stem)
            self.assertEqual(len(names), len(set(names)), stem)

    def test_no_local_is_called_like_a_class_or_an_import_of_its_file(self):
        for stem, tree in TREES.items():
            taken = [alias.name for node in tree.body if isinstance(node, ast.ImportFrom) for alias in node.names]
            taken += [node.name for node in tree.body if isinstance(node, ast.ClassDef)]
            bound = [node.arg for node in ast.walk(tree) if isinstance(node, ast.arg)]
            bound += [node.id for node in ast.walk(tree) if isinstance(node, ast.Name) and isinstance(node.ctx, ast.Store)]
            self.assertEqual(sorted(set(taken) & set(bound)), [], stem)

    def test_methods_are_own_ones_or_listed(self):
        own = [part.name for stem, node in nodes(ast.ClassDef) for part in node.body if isinstance(part, ast.FunctionDef)]
        for stem, node in nodes(ast.Call):
            if isinstance(node.func, ast.Attribute):
                self.assertIn(node.func.attr, OWN_METHODS + own, stem)

    def test_no_name_is_a_method_here_and_a_value_there(self):
        own = [part.name for stem, node in nodes(ast.ClassDef) for part in node.body if isinstance(part, ast.FunctionDef)]
        stored = [node.attr for stem, node in nodes(ast.Attribute) if isinstance(node.ctx, ast.Store)]
        self.assertEqual(sorted(set(own) & set(stored)), [])
        of_python = [name for kind in (str, int, list, dict, set, bytes) for name in dir(kind)]
        self.assertEqual(sorted(set(stored) & set(of_python)), [])


if __name__ == "__main__":
    unittest.main()

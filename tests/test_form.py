"""The form of the package's files, as far as a look at them can tell: sizes, signs, words, forms, names."""

import ast
import pathlib
import re
import unittest

import faxpages

FOLDER = pathlib.Path(faxpages.__file__).parent

WORDS_OUT = """type typing typing_extensions enum Enum IntEnum StrEnum Flag IntFlag Generic Protocol ABC ABCMeta
namedtuple NamedTuple TypedDict TYPE_CHECKING abstractmethod""".split()

NAMES_OUT = """register mro elements open input version_info with_traceback add_note attrgetter breakpoint builtins
compile copyright credits delattr dir eval exec exit gc getattr globals hasattr help id importlib license locals
methodcaller os quit setattr super type vars sys hash next map filter bytes float object chr print""".split()

BUILT_IN = """len range enumerate zip min max sum abs sorted reversed int str bool list tuple dict set frozenset
isinstance ord repr any all divmod ValueError KeyError IndexError""".split()

ERRORS_TO_TAKE = "KeyError ZeroDivisionError StopIteration ValueError LookupError IndexError".split()

METHODS = """append clear copy count endswith extend find get index insert isalnum isalpha isdigit islower isspace
isupper items join keys ljust lower lstrip partition pop remove replace reverse rfind rjust rpartition rsplit
rstrip setdefault split splitlines startswith strip update upper values zfill bit_length""".split()

FORMS_OUT = (
    ast.With, ast.Match, ast.Delete, ast.Global, ast.Nonlocal, ast.Assert, ast.Yield, ast.YieldFrom, ast.Await,
    ast.AsyncFunctionDef, ast.AsyncFor, ast.AsyncWith, ast.Import, ast.SetComp, ast.DictComp, ast.GeneratorExp,
    ast.NamedExpr, ast.Starred, ast.Div, ast.MatMult, ast.AnnAssign,
)


TWO_UNDERSCORES = "__init__ __eq__ __repr__ __str__ __len__".split()


def sources():
    for path in sorted(FOLDER.rglob("*.py")):
        yield path.name, path.read_text(encoding="utf-8")


def trees():
    for name, text in sources():
        yield name, ast.parse(text)


def classes():
    return [node for name, tree in trees() for node in ast.walk(tree) if isinstance(node, ast.ClassDef)]


def own_methods():
    return {node.name for made in classes() for node in made.body if isinstance(node, ast.FunctionDef)}


def own_values():
    """What objects of the package keep."""
    return {
        node.attr for made in classes() for node in ast.walk(made)
        if isinstance(node, ast.Attribute) and isinstance(node.ctx, ast.Store)
    }


class Form(unittest.TestCase):
    def test_nothing_else_lies_in_the_folder(self):
        for path in FOLDER.rglob("*"):
            if "__pycache__" not in path.parts:
                self.assertRegex(path.name, r"^([a-z][a-z0-9_]*|__init__)\.py$")

    def test_sizes_and_signs(self):
        for name, text in sources():
            self.assertRegex(text, r"\A[ -~\n]*\Z", name)
            lines = text.split("\n")
            self.assertLessEqual(len(lines), 399, name)
            self.assertLessEqual(max(len(line) for line in lines), 120, name)

    def test_words_that_stand_nowhere(self):
        for name, text in sources():
            for word in re.findall(r"\w+", text):
                self.assertNotIn(word, WORDS_OUT, name)

    def test_functions_are_short_and_plain(self):
        for name, tree in trees():
            for node in ast.walk(tree):
                if isinstance(node, ast.FunctionDef):
                    self.assertLessEqual(node.end_lineno - node.lineno + 1, 40, node.name)
                    self.assertEqual(node.decorator_list, [], node.name)
                    self.assertIsNone(node.args.vararg or node.args.kwarg, node.name)

    def test_forms_and_values(self):
        for name, tree in trees():
            for node in ast.walk(tree):
                self.assertNotIsInstance(node, FORMS_OUT, name)
                if isinstance(node, ast.Constant):
                    self.assertIn(node.value.__class__, (int, str, bool, type(None)), name)
                if isinstance(node, (ast.For, ast.While, ast.Try)):
                    self.assertEqual(node.orelse if not isinstance(node, ast.Try) else [], [], name)
                if isinstance(node, ast.Assign):
                    self.assertEqual(len(node.targets), 1, name)

    def test_draws_from_the_package_alone(self):
        for name, tree in trees():
            for node in ast.walk(tree):
                if isinstance(node, ast.ImportFrom):
                    self.assertEqual((node.level, node.module.split(".")[0]), (0, "faxpages"), name)

    def test_names(self):
        for name, tree in trees():
            made = {node.name for node in ast.walk(tree) if isinstance(node, (ast.FunctionDef, ast.ClassDef))}
            drawn = {a.name for node in ast.walk(tree) if isinstance(node, ast.ImportFrom) for a in node.names}
            for node in ast.walk(tree):
                if isinstance(node, ast.Name):
                    self.assertRegex(node.id, r"^[A-Za-z][A-Za-z0-9_]*$", name)
                    self.assertNotIn(node.id, NAMES_OUT, name)
                if isinstance(node, ast.Call):
                    self.assertEqual(node.keywords, [], name)
                    if isinstance(node.func, ast.Name):
                        self.assertIn(node.func.id, made | drawn | set(BUILT_IN), name)
                    else:
                        self.assertIn(node.func.attr, METHODS + TWO_UNDERSCORES + sorted(own_methods()), name)

    def test_classes(self):
        names = [made.name for made in classes()]
        self.assertEqual(len(names), len(set(names)))
        for made in classes():
            self.assertEqual((made.decorator_list, made.keywords), ([], []), made.name)
            self.assertLessEqual(len(made.bases), 1, made.name)
            for base in made.bases:
                self.assertIn(base.id, names + ["Exception", "ValueError"], made.name)
            methods = [node.name for node in made.body if isinstance(node, ast.FunctionDef)]
            self.assertEqual(len(methods), len(set(methods)), made.name)
            for node in made.body:
                self.assertIsInstance(node, ast.FunctionDef, made.name)

    def test_methods_and_values(self):
        ours = own_methods() - set(TWO_UNDERSCORES)
        self.assertEqual(own_values() & ours, set())
        for kind in (str, int, list, dict, set, bytes, tuple):
            self.assertEqual((own_values() | ours) & set(dir(kind)), set())
        for name in own_values() | ours:
            self.assertRegex(name, r"^[A-Za-z][A-Za-z0-9_]*$")

    def test_errors_are_raised_and_taken_by_name(self):
        names = [made.name for made in classes()]
        for name, tree in trees():
            for node in ast.walk(tree):
                if isinstance(node, ast.Raise):
                    self.assertIn(node.exc.func.id, names, name)
                if isinstance(node, ast.Try):
                    self.assertEqual(node.finalbody, [], name)
                if isinstance(node, ast.ExceptHandler):
                    self.assertIn(node.type.id, names + ERRORS_TO_TAKE, name)


if __name__ == "__main__":
    unittest.main()

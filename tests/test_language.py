"""The rules of LANGUAGE.md that can be asked of the files as they stand, and where the interface lies."""

import ast
import builtins
import pathlib
import re
import unittest

PACKAGE = pathlib.Path(__file__).resolve().parent.parent / "whichheld"
FILES = sorted(PACKAGE.glob("*.py"))

INTERFACE = {
    "programs": ("program_error", "each_statement", "statement_at", "weight", "contrary", "mutants"),
    "runs": ("run", "sign"),
    "families": ("family_error", "signs_at"),
    "tables": ("signs_of", "signs_hold", "kinds_of"),
    "verdicts": ("parted", "kin", "where", "kills", "kills_hold", "unkilled"),
    "hearing": ("heard_error", "left"),
    "plans": ("tries", "plan_of", "plan_holds"),
    "aheads": ("ahead_of", "ahead_holds"),
    "texts": ("family_text", "parse_family"),
    "benches": ("Bench", "FairBench"),
    "consoles": ("Console",),
}
ALLOWED = (
    "len range enumerate zip min max sum abs sorted reversed int str bool list tuple dict set isinstance ord "
    "repr any all divmod iter next Exception ValueError TypeError KeyError IndexError LookupError "
    "ZeroDivisionError").split()
BARRED_WORDS = (
    "type typing typing_extensions enum Enum IntEnum StrEnum Flag IntFlag Generic Protocol ABC ABCMeta "
    "namedtuple NamedTuple TypedDict TYPE_CHECKING abstractmethod").split()
BARRED_NAMES = "register mro elements open input law version_info with_traceback add_note".split()
METHODS = {
    ("benches", "Bench"): (
        "__init__(self, family, heard=(), lies=0)", "add(self, program)", "drop(self, index)", "change(self, index, program)",
        "hear(self, number, sign)", "allow(self, lies)", "__getitem__(self, at)", "__setitem__(self, at, worth)",
        "__iadd__(self, other)", "__isub__(self, other)", "__len__(self)", "__str__(self)", "__eq__(self, other)",
        "try_next(self, sign)", "undo(self)", "redo(self)", "attempt(self, edits, *, watch=None)", "left(self)", "tries(self)",
        "to_try(self)", "told(self, number, *, version=None)", "state(self, *, version=None)", "edits(self)"),
    ("benches", "FairBench"): ("__init__(self, family, heard=(), lies=0)",),
    ("consoles", "Console"): ("__init__(self, bench)", "execute(self, line)"),
}
ARGUMENTS = (
    "program_error(value)", "each_statement(program)", "statement_at(program, place)", "weight(program)", "contrary(program)",
    "mutants(program)", "run(program, number)", "sign(program, number)", "family_error(value)", "signs_at(family, number)",
    "signs_of(family)", "signs_hold(family, value)", "kinds_of(family)", "parted(one, other)", "kin(family)",
    "where(family, signs)", "kills(family)", "kills_hold(family, value)", "unkilled(program)", "heard_error(value)",
    "left(family, heard, lies)", "tries(family, heard, lies)", "plan_of(family, heard, lies)",
    "plan_holds(family, heard, lies, most, value)", "ahead_of(family, lies)", "ahead_holds(family, lies, value)",
    "family_text(family)", "parse_family(value)")
FUNCTIONS = (ast.FunctionDef, ast.AsyncFunctionDef)


def each_file():
    """The path, the text and the syntax tree of each file of the package."""
    for path in FILES:
        text = path.read_text(encoding="ascii")
        yield path.name, text, ast.parse(text)


def names_of(node):
    """Each name that the node itself gives or uses."""
    if isinstance(node, ast.Name):
        return [node.id]
    if isinstance(node, ast.Attribute):
        return [node.attr]
    if isinstance(node, (ast.FunctionDef, ast.ClassDef)):
        return [node.name]
    if isinstance(node, ast.arg):
        return [node.arg]
    return []


class LanguageTest(unittest.TestCase):
    def test_the_folder(self):
        others = [path.name for path in PACKAGE.iterdir()
                  if path.name != "__pycache__" and not re.fullmatch("[a-z0-9_]+[.]py", path.name)]
        self.assertEqual(others, [])
        self.assertIn(PACKAGE / "__init__.py", FILES)

    def test_sizes_and_characters(self):
        for path, text, tree in each_file():
            lines = text.split("\n")
            self.assertLessEqual(len(lines), 399, path)
            self.assertLessEqual(max(len(line) for line in lines), 120, path)
            self.assertIsNone(re.search("[^ -~\n]", text), path)
            for node in ast.walk(tree):
                if isinstance(node, FUNCTIONS):
                    self.assertLessEqual(node.end_lineno - node.lineno + 1, 40, (path, node.name))

    def test_words(self):
        for path, text, tree in each_file():
            found = set(re.findall(r"\w+", text))
            self.assertEqual(sorted(found & set(BARRED_WORDS)), [], path)
            self.assertIsNone(re.search("dataclass|overload|contextmanager", text), path)

    def test_imports(self):
        for path, text, tree in each_file():
            for node in ast.walk(tree):
                self.assertNotIsInstance(node, ast.Import, path)
                if isinstance(node, ast.ImportFrom):
                    self.assertIn(node, tree.body, path)
                    self.assertEqual(node.level, 0, path)
                    self.assertRegex(node.module, r"\Awhichheld[.][a-z]+\Z", path)
                    self.assertNotIn("*", [alias.name for alias in node.names], path)

    def test_plain_names(self):
        for path, text, tree in each_file():
            for node in ast.walk(tree):
                for name in names_of(node):
                    plain = re.fullmatch("[A-Za-z][A-Za-z0-9_]*|__[a-z]+__", name)
                    self.assertIsNotNone(plain, (path, name))
                    self.assertNotIn(name, BARRED_NAMES, path)

    def test_builtins(self):
        for path, text, tree in each_file():
            for node in ast.walk(tree):
                if isinstance(node, (ast.Name, ast.arg)) and hasattr(builtins, names_of(node)[0]):
                    self.assertIsInstance(node, ast.Name, (path, names_of(node)))
                    self.assertIsInstance(node.ctx, ast.Load, (path, names_of(node)))
                    self.assertIn(node.id, ALLOWED, path)

    def test_lists_stand_in_sums_and_their_kin(self):
        for path, text, tree in each_file():
            for node in ast.walk(tree):
                if isinstance(node, ast.Call) and isinstance(node.func, ast.Name):
                    if node.func.id in ("any", "all", "sum", "min", "max", "sorted"):
                        found = [part for part in node.args if isinstance(part, ast.GeneratorExp)]
                        self.assertEqual(found, [], path)

    def test_stars_in_calls_stand_ahead_of_names(self):
        for path, text, tree in each_file():
            for node in ast.walk(tree):
                for part in node.args if isinstance(node, ast.Call) else ():
                    if isinstance(part, ast.Starred):
                        self.assertIsInstance(part.value, (ast.Name, ast.Attribute, ast.Tuple, ast.List), path)

    def test_methods_and_attributes_have_names_of_their_own(self):
        methods, attributes = set(), set()
        for path, text, tree in each_file():
            for node in ast.walk(tree):
                if isinstance(node, ast.ClassDef):
                    methods.update(part.name for part in node.body if isinstance(part, ast.FunctionDef))
                if isinstance(node, ast.Attribute) and isinstance(node.ctx, ast.Store):
                    attributes.add(node.attr)
        self.assertEqual(sorted(methods & attributes), [])

    def test_no_local_name_is_that_of_an_import_or_a_class(self):
        for path, text, tree in each_file():
            taken = {alias.name for node in tree.body if isinstance(node, ast.ImportFrom) for alias in node.names}
            taken |= {node.name for node in tree.body if isinstance(node, ast.ClassDef)}
            for node in ast.walk(tree):
                if isinstance(node, ast.arg):
                    self.assertNotIn(node.arg, taken, path)
                if isinstance(node, ast.Name) and isinstance(node.ctx, ast.Store):
                    self.assertNotIn(node.id, taken, path)

    def test_no_module_imports_one_that_imports_it(self):
        needs = {path[:-3]: [node.module.split(".")[1] for node in tree.body if isinstance(node, ast.ImportFrom)]
                 for path, text, tree in each_file()}
        while needs:
            free = [name for name in needs if not [other for other in needs[name] if other in needs]]
            self.assertNotEqual(free, [], needs)
            needs = {name: others for name, others in needs.items() if name not in free}


class InterfaceTest(unittest.TestCase):
    def test_each_function_is_defined_in_its_file(self):
        for name, wanted in INTERFACE.items():
            tree = ast.parse((PACKAGE / (name + ".py")).read_text(encoding="ascii"))
            defined = [node.name for node in tree.body if isinstance(node, (ast.FunctionDef, ast.ClassDef))]
            self.assertEqual([word for word in wanted if word not in defined], [])

    def test_arguments(self):
        found = []
        for path, text, tree in each_file():
            found.extend([f"{node.name}({ast.unparse(node.args)})" for node in tree.body if isinstance(node, ast.FunctionDef)])
        self.assertEqual([wanted for wanted in ARGUMENTS if wanted not in found], [])

    def test_each_method_is_defined_in_its_class(self):
        for (name, word), wanted in METHODS.items():
            tree = ast.parse((PACKAGE / (name + ".py")).read_text(encoding="ascii"))
            body = [node.body for node in tree.body if isinstance(node, ast.ClassDef) and node.name == word][0]
            found = [f"{node.name}({ast.unparse(node.args)})" for node in body if isinstance(node, ast.FunctionDef)]
            self.assertEqual([one for one in wanted if one not in found], [])


if __name__ == "__main__":
    unittest.main()

"""The rules of the language that can be seen in the package's files one by one."""

import ast
import builtins
import re
import unittest
from pathlib import Path

PACKAGE = Path(__file__).resolve().parent.parent / "streetrounds"
FILES = sorted(PACKAGE.rglob("*.py"))

BUILTINS = set(
    "len range enumerate zip min max sum abs sorted reversed int str bool list tuple dict set"
    " isinstance ord repr any all divmod super map"
    " Exception ValueError TypeError KeyError IndexError LookupError ZeroDivisionError".split()
)
METHODS = set(
    "append clear copy count endswith extend find get index insert isalnum isalpha isdigit islower"
    " isspace isupper items join keys ljust lower lstrip partition pop remove replace reverse rfind"
    " rjust rpartition rsplit rstrip setdefault split splitlines startswith strip update upper"
    " values zfill bit_length sort add discard __init__".split()
)
BARRED_NAMES = set(
    "register mro elements open input law version_info with_traceback add_note attrgetter breakpoint"
    " compile copyright credits delattr dir eval exec exit gc globals help id importlib license"
    " locals methodcaller os quit setattr type vars sys".split()
)
BARRED_WORDS = set(
    "type typing enum Enum Flag Generic Protocol ABC namedtuple NamedTuple dataclass overload".split()
)
BARRED_NODES = (
    ast.Global, ast.AsyncFunctionDef, ast.AsyncFor, ast.AsyncWith, ast.Await, ast.Import, ast.Div,
    ast.MatMult, ast.TryStar,
)
LIBRARY = {
    "heapq": {"heappush", "heappop", "heapify", "heapreplace", "heappushpop"},
    "math": {"gcd", "lcm", "isqrt", "comb", "perm", "factorial"},
    "itertools": {
        "product", "combinations", "permutations", "chain", "accumulate", "pairwise", "islice",
        "zip_longest",
    },
    "collections": {"defaultdict"},
}


def module_name(path):
    parts = path.relative_to(PACKAGE.parent).with_suffix("").parts
    return ".".join(parts)


def read_files():
    """Tell (path, text, tree) of each file of the package."""
    texts = [(path, path.read_text(encoding="utf-8")) for path in FILES]
    return [(path, text, ast.parse(text, str(path))) for path, text in texts]


EACH_FILE = read_files()


def bound_names(tree):
    """Tell the names that are bound anywhere: functions, classes, parameters, variables."""
    found = set()
    for node in ast.walk(tree):
        if isinstance(node, (ast.FunctionDef, ast.ClassDef)):
            found.add(node.name)
        elif isinstance(node, ast.arg):
            found.add(node.arg)
        elif isinstance(node, ast.Name) and isinstance(node.ctx, ast.Store):
            found.add(node.id)
        elif isinstance(node, (ast.alias, ast.ExceptHandler)):
            found.add(node.name)
    return found


def own_methods():
    found = set()
    for _, _, tree in EACH_FILE:
        for node in ast.walk(tree):
            if isinstance(node, ast.ClassDef):
                found |= {row.name for row in node.body if isinstance(row, ast.FunctionDef)}
    return found


def each_node(*kinds):
    """Tell (file, node) of each node of these kinds in the package."""
    found = []
    for path, _, tree in EACH_FILE:
        found += [(path.name, node) for node in ast.walk(tree) if isinstance(node, kinds)]
    return found


def each_text():
    """Tell (file, text) of each string in the package."""
    nodes = each_node(ast.Constant)
    return [(file, node.value) for file, node in nodes if isinstance(node.value, str)]


class Language(unittest.TestCase):
    def test_the_folder_holds_plain_files_alone(self):
        for path in PACKAGE.rglob("*"):
            if "__pycache__" not in path.parts:
                self.assertEqual(path.suffix, ".py")
                self.assertRegex(path.name, r"\A(__init__|[a-z][a-z0-9_]*)\.py\Z")

    def test_characters_and_lines(self):
        for path, text, _ in EACH_FILE:
            with self.subTest(file=path.name):
                self.assertRegex(text, r"\A[ -~\n]*\Z")
                lines = text.split("\n")
                self.assertLessEqual(len(lines), 400)
                self.assertLessEqual(max(len(line) for line in lines), 120)

    def test_functions_are_small(self):
        for file, node in each_node(ast.FunctionDef):
            self.assertLessEqual(node.end_lineno - node.lineno + 1, 40, (file, node.name))

    def test_imports_name_the_file_that_defines(self):
        defines = dict(LIBRARY)
        for path, _, tree in EACH_FILE:
            defines[module_name(path)] = set(names_at_top(tree, ast.FunctionDef, ast.ClassDef, ast.Assign))
        for file, node in each_node(ast.ImportFrom):
            self.assertEqual({alias.asname for alias in node.names}, {None}, file)
            self.assertLessEqual({alias.name for alias in node.names}, defines[node.module], file)

    def test_no_two_files_import_from_each_other(self):
        needs = {}
        for path, _, tree in EACH_FILE:
            froms = {row.module for row in tree.body if isinstance(row, ast.ImportFrom)}
            needs[module_name(path)] = froms
        while needs:
            free = [name for name, other in needs.items() if not other & set(needs)]
            self.assertTrue(free, needs)
            for name in free:
                del needs[name]

    def test_no_barred_statements_and_signs(self):
        self.assertEqual(each_node(*BARRED_NODES), [])

    def test_no_barred_literals(self):
        for file, node in each_node(ast.Constant):
            self.assertNotIsInstance(node.value, (float, complex), file)
        for file, text in each_text():
            self.assertNotIn("%", text, file)

    def test_no_barred_words_in_strings(self):
        for file, text in each_text():
            words = set(re.findall(r"\w+", text))
            self.assertEqual(words & (BARRED_WORDS - {"type"}), set(), file)

    def test_builtins(self):
        for path, _, tree in EACH_FILE:
            names = {node.id for node in ast.walk(tree) if isinstance(node, ast.Name)}
            self.assertLessEqual(names - bound_names(tree), BUILTINS, path.name)

    def test_methods(self):
        for file, node in each_node(ast.Call):
            if isinstance(node.func, ast.Attribute):
                self.assertIn(node.func.attr, METHODS | own_methods(), file)

    def test_no_barred_names(self):
        barred = BARRED_NAMES | BARRED_WORDS | set(dir(builtins))
        for path, _, tree in EACH_FILE:
            self.assertEqual((bound_names(tree) - own_methods()) & barred, set(), path.name)

    def test_no_local_name_is_a_class_or_an_import(self):
        for path, _, tree in EACH_FILE:
            top = set(names_at_top(tree, ast.ClassDef, ast.ImportFrom))
            for node in ast.walk(tree):
                if isinstance(node, ast.FunctionDef):
                    self.assertEqual((bound_names(node) - {node.name}) & top, set(), path.name)

    def test_each_name_at_module_level_is_bound_once(self):
        kinds = (ast.ImportFrom, ast.FunctionDef, ast.ClassDef, ast.Assign)
        for path, _, tree in EACH_FILE:
            names = names_at_top(tree, *kinds)
            self.assertEqual(len(names), len(set(names)), path.name)

    def test_module_level_holds_a_docstring_and_definitions_alone(self):
        kinds = (ast.ImportFrom, ast.FunctionDef, ast.ClassDef, ast.Assign)
        for path, _, tree in EACH_FILE:
            self.assertIsNotNone(ast.get_docstring(tree), path.name)
            for row in tree.body[1:]:
                self.assertIsInstance(row, kinds, path.name)


def names_at_top(tree, *kinds):
    """Tell the names that the rows of these kinds bind at module level."""
    found = []
    for row in tree.body:
        if not isinstance(row, kinds):
            continue
        if isinstance(row, (ast.FunctionDef, ast.ClassDef)):
            found.append(row.name)
        elif isinstance(row, ast.ImportFrom):
            found += [alias.name for alias in row.names]
        else:
            found += [target.id for target in row.targets]
    return found


if __name__ == "__main__":
    unittest.main()

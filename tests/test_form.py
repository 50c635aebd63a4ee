"""The rules for the package's files that a look at their words and their tree can show."""

import ast
import builtins
import pathlib
import re
import unittest

PACKAGE = pathlib.Path(__file__).resolve().parent.parent / "spotlay"
FILES = sorted(PACKAGE.glob("*.py"))

BARRED_WORDS = (
    "type typing typing_extensions enum Enum IntEnum StrEnum Flag IntFlag Generic Protocol ABC ABCMeta "
    "namedtuple NamedTuple TypedDict TYPE_CHECKING abstractmethod"
).split()
BUILTINS = (
    "len range enumerate zip min max sum abs sorted reversed int str bool bytes list tuple dict set frozenset "
    "isinstance ord repr any all divmod Exception ValueError TypeError KeyError IndexError LookupError "
    "ZeroDivisionError ArithmeticError OverflowError RuntimeError NotImplementedError AttributeError "
    "StopIteration NotImplemented"
).split()
FUNCTIONS = {
    "jobs.py": [
        "is_job(thing)", "is_laying(job, thing)", "is_part(job, thing)", "cost(job, laying)", "fixed(job, part)",
    ],
    "exchanges.py": [
        "exchanged(laying, one, other)", "saved(job, laying, one, other)", "is_still(job, laying)",
        "settled(job, laying)", "is_settling(job, laying, steps)",
    ],
    "pairings.py": ["pairing(table)", "are_prices(table, number, left, right)"],
    "bounds.py": ["least_product(one, other)", "bound_table(job, part)", "bound(job, part)"],
    "least.py": ["least(job)", "shows(job, number, tree)"],
    "lines.py": ["line(job)", "line_least(job)", "are_floors(job, number, floors)"],
    "hubs.py": ["hub(job)", "hub_least(job)", "hub_shows(job, number, papers)"],
    "alike.py": ["alike_works(job)", "alike_places(job)", "first_alike(job, laying)", "how_many_unlike(job)"],
    "means.py": ["mean(job, part)", "by_means(job)"],
    "texts.py": ["show_job(job)", "read_job(text)"],
}
METHODS = {
    ("keeper.py", "Keeper"): [
        "__init__(self, job, laying)", "flow(self, one, other, number)", "way(self, one, other, number)",
        "charge(self, work, place, number)", "swap(self, one, other)", "back(self)", "better(self)", "job(self)",
        "laying(self)", "cost(self)",
    ],
    ("desk.py", "Desk"): ["__init__(self)", "say(self, row)"],
}


def trees():
    for path in FILES:
        yield path.name, ast.parse(path.read_text(encoding="utf-8"))


def head(node):
    return f"{node.name}({', '.join(one.arg for one in node.args.args)})"


def bound_names(tree):
    """All names that are given a meaning, but for the double-underscore methods."""
    for node in ast.walk(tree):
        if isinstance(node, (ast.FunctionDef, ast.ClassDef)):
            if not re.fullmatch(r"__[a-z]+__", node.name):
                yield node.name
        elif isinstance(node, ast.arg):
            yield node.arg
        elif isinstance(node, ast.Name) and not isinstance(node.ctx, ast.Load):
            yield node.id
        elif isinstance(node, ast.alias):
            yield node.asname or node.name


class Form(unittest.TestCase):
    def test_the_folder_holds_plainly_named_files_only(self):
        for path in PACKAGE.iterdir():
            if path.name != "__pycache__":
                self.assertTrue(re.fullmatch(r"(__init__|[a-z][a-z0-9_]*)\.py", path.name), path.name)

    def test_the_functions_of_the_interface_stand_in_their_files(self):
        found = dict(trees())
        for name, wanted in FUNCTIONS.items():
            heads = [head(node) for node in found[name].body if isinstance(node, ast.FunctionDef)]
            for one in wanted:
                self.assertIn(one, heads)

    def test_the_methods_of_the_interface_stand_in_their_classes(self):
        found = dict(trees())
        for (name, told), wanted in METHODS.items():
            classes = [node for node in found[name].body if isinstance(node, ast.ClassDef) and node.name == told]
            self.assertEqual(len(classes), 1)
            heads = [head(node) for node in classes[0].body if isinstance(node, ast.FunctionDef)]
            for one in wanted:
                self.assertIn(one, heads)

    def test_no_name_is_a_method_and_an_attribute(self):
        methods, attributes = set(), set()
        for name, tree in trees():
            for node in ast.walk(tree):
                if isinstance(node, ast.ClassDef):
                    methods |= {one.name for one in node.body if isinstance(one, ast.FunctionDef)}
                elif isinstance(node, ast.Attribute) and isinstance(node.ctx, ast.Store):
                    attributes.add(node.attr)
        self.assertTrue(methods)
        self.assertEqual(methods & attributes, set())
        for one in methods | attributes:
            for value in ("", 0, [], {}, (), set(), b""):
                self.assertFalse(hasattr(value, one) and not one.startswith("__"), one)

    def test_no_two_files_import_from_each_other(self):
        needs = {}
        for name, tree in trees():
            modules = [node.module for node in tree.body if isinstance(node, ast.ImportFrom)]
            needs[name] = {module.split(".")[1] + ".py" for module in modules}
        while needs:
            free = [name for name in needs if not needs[name] & set(needs)]
            self.assertTrue(free, needs)
            for name in free:
                del needs[name]

    def test_a_name_is_imported_from_the_file_that_defines_it(self):
        found = dict(trees())
        for name, tree in found.items():
            for node in tree.body:
                if isinstance(node, ast.ImportFrom):
                    other = found[node.module.split(".")[1] + ".py"]
                    defined = {one.name for one in other.body if isinstance(one, (ast.FunctionDef, ast.ClassDef))}
                    for one in other.body:
                        if isinstance(one, ast.Assign):
                            defined.add(one.targets[0].id)
                    self.assertEqual({alias.name for alias in node.names} - defined, set(), name)

    def test_signs_and_sizes(self):
        for path in FILES:
            text = path.read_text(encoding="utf-8")
            self.assertTrue(re.fullmatch(r"[ -~\n]*", text), path.name)
            rows = text.split("\n")
            self.assertLessEqual(len(rows), 400, path.name)
            self.assertLessEqual(max(len(row) for row in rows), 120, path.name)

    def test_barred_words(self):
        for path in FILES:
            words = re.findall(r"\w+", path.read_text(encoding="utf-8"))
            self.assertEqual([word for word in words if word in BARRED_WORDS], [], path.name)

    def test_functions_are_short(self):
        for name, tree in trees():
            for node in ast.walk(tree):
                if isinstance(node, ast.FunctionDef):
                    self.assertLessEqual(node.end_lineno - node.lineno + 1, 40, f"{name} {node.name}")

    def test_only_the_package_is_imported_by_full_names(self):
        for name, tree in trees():
            for node in ast.walk(tree):
                self.assertNotIsInstance(node, ast.Import, name)
                if isinstance(node, ast.ImportFrom):
                    self.assertIn(node, tree.body)
                    self.assertEqual(node.level, 0)
                    self.assertTrue(node.module.startswith("spotlay."), name)
                    self.assertNotEqual(node.names[0].name, "*")

    def test_no_name_hides_a_builtin_or_begins_with_an_underscore(self):
        for name, tree in trees():
            for bound in bound_names(tree):
                self.assertFalse(hasattr(builtins, bound), f"{name} {bound}")
                self.assertFalse(bound.startswith("_"), f"{name} {bound}")

    def test_no_local_name_hides_an_import_or_a_class(self):
        for name, tree in trees():
            told = [node.name for node in tree.body if isinstance(node, ast.ClassDef)]
            for node in tree.body:
                if isinstance(node, ast.ImportFrom):
                    told += bound_names(node)
            self.assertEqual(len(set(told)), len(told), name)
            for node in ast.walk(tree):
                if isinstance(node, (ast.FunctionDef, ast.Lambda)):
                    self.assertEqual([bound for bound in bound_names(node) if bound in told], [], name)

    def test_only_the_allowed_builtins_are_used(self):
        for name, tree in trees():
            for node in ast.walk(tree):
                if isinstance(node, ast.Name) and hasattr(builtins, node.id):
                    self.assertIn(node.id, BUILTINS, name)

    def test_no_barred_statements_and_values(self):
        barred = (ast.Global, ast.AsyncFunctionDef, ast.Await, ast.Div)
        for name, tree in trees():
            for node in ast.walk(tree):
                self.assertNotIsInstance(node, barred, name)
                if isinstance(node, ast.Constant):
                    self.assertNotIsInstance(node.value, (float, complex), name)
                if isinstance(node, ast.Constant) and isinstance(node.value, str):
                    self.assertNotIn(chr(37), node.value, name)


if __name__ == "__main__":
    unittest.main()

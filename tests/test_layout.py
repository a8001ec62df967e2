import ast
import unittest
from pathlib import Path

PACKAGE = Path(__file__).resolve().parent.parent / "undername"
MOST_FILE_LINES = 399
MOST_LINE_CHARACTERS = 120
MOST_FUNCTION_LINES = 40

# The parameters of [36].
MEANT = ["*", "names=None", "where=()"]
COMPARED = ["answers=True", "store=True"]

# The functions of the interface with their parameters, by file; those behind a
# star are by name only.
FUNCTIONS = {
    "texts.py": {
        "check_letters": ["letters"],
        "is_text": ["letters", "value"],
        "raised": ["letters", "text"],
        "room": ["letters", "low", "high"],
        "number_of": ["letters", "name"],
        "name_at": ["letters", "number"],
    },
    "words.py": {
        "root": ["word"],
        "shared": ["word", "name"],
        "same_words": ["one", "other"],
    },
    "made.py": {
        "struck": ["one", "other"],
        "relation": ["one", "other", "name"],
        "word_of": ["one", "other"],
    },
    "equations.py": {
        "names_where": ["letters", "one", "other", "words"],
        "solved": ["letters", "one", "other"],
    },
    "orders.py": {
        "order": ["letters", "bounds", "name", "*", "most=1"],
        "told_names": ["letters", "bounds", "*", "most=1"],
        "told_name": ["letters", "bounds", "name", "*", "most=1"],
        "classes": ["letters", "bounds", "*", "most=1"],
    },
    "zones.py": {
        "names_within": ["zone", "other"],
        "missed": ["zone", "other"],
        "names_with_room": ["zone", "many"],
        "right_end": ["letters", "made"],
        "wrong_end": ["letters", "made", "bound"],
    },
    "runs.py": {
        "run": ["program", "name", "store"],
        "holds": ["test", "letters", "name", "store"],
    },
    "alike.py": {
        "alike": ["p", "q", *MEANT, *COMPARED],
        "least_parting": ["p", "q", *MEANT, *COMPARED],
        "parting_names": ["p", "q", *MEANT, *COMPARED],
    },
    "papers.py": {
        "paper": ["p", "q", *MEANT, *COMPARED],
        "paper_holds": ["p", "q", "paper", *MEANT, *COMPARED],
    },
    "choices.py": {
        "can_run": ["program", *MEANT],
        "idle_rows": ["program", *MEANT, *COMPARED],
        "fewest_rows": ["program", *MEANT, *COMPARED],
        "broken": ["program", "tests", *MEANT],
        "page_fault": ["program", "zone", *MEANT],
    },
}

# The rows and tests of [30] with the parameters of their constructors, and what they are instances of.
ROWS = {
    "Row": [], "Change": [], "Asking": [], "Zoned": [], "Test": [],
    "Put": ["key", "value"], "Copy": ["key", "source"], "Take": ["zone", "after=None"], "Keep": ["zone"],
    "Fill": ["zone", "value", "after=None"], "Tell": ["key"], "List": ["zone", "after=None"],
    "Count": ["zone", "after=None"], "Last": ["zone", "after=None"], "Page": ["zone", "count", "found", "after=None"],
    "If": ["test", "rows", "others=()"], "There": ["key"], "Is": ["key", "value"], "Same": ["key", "other"],
    "Some": ["zone", "after=None"], "Found": ["found"], "Not": ["test"],
}

# The classes of the interface with the parameters of their constructors and
# named methods, and with the operators that stand in them, by file.
CLASSES = {
    "made.py": {
        "Made": (
            {"__init__": ["self", "text=''"], "__call__": ["self", "name"]},
            ["add", "radd", "mul", "rmul", "eq", "len", "str"],
        ),
    },
    "names.py": {
        "Names": (
            {
                "none": ["cls", "letters"], "every": ["cls", "letters"], "of": ["cls", "letters", "some"],
                "beginning": ["cls", "letters", "text"], "family": ["cls", "letters", "word", "rest", "count=0"],
                "size": ["self"], "least": ["self"], "many": ["self", "length"],
            },
            [
                "and", "or", "sub", "xor", "invert", "le", "lt", "ge", "gt", "eq", "add", "radd", "floordiv", "contains",
                "bool", "getitem", "iter",
            ],
        ),
    },
    "bounds.py": {
        "Bound": (
            {
                "__init__": ["self", "kind", "made=None"], "ahead": ["cls", "made"], "behind": ["cls", "made"],
                "past": ["cls", "made"], "end": ["cls"], "placed": ["self", "letters", "name"],
            },
            ["eq", "str"],
        ),
    },
    "zones.py": {
        "Zone": (
            {
                "__init__": ["self", "letters", "low", "high"], "under": ["cls", "letters", "made"],
                "only": ["cls", "letters", "made"], "everything": ["cls", "letters"], "read": ["cls", "letters", "text"],
                "__call__": ["self", "name"], "has": ["self", "name", "key"],
            },
            ["and", "or", "sub", "xor", "invert", "eq", "le", "lt", "ge", "gt", "bool", "str"],
        ),
    },
    "stores.py": {
        "Store": (
            {
                "__init__": ["self", "letters", "pairs=()"],
                "pairs": ["self", "low=''", "high=None", "*", "after=None"],
                "page": ["self", "count", "low=''", "high=None", "*", "after=None"],
                "take": ["self", "low", "high", "*", "after=None"],
                "fill": ["self", "value", "low", "high", "*", "after=None"],
                "copied": ["self"], "trial": ["self"], "within": ["self", "work"],
            },
            ["getitem", "setitem", "contains", "len", "eq", "iter"],
        ),
    },
    "rows.py": {
        name: ({"__init__": ["self", *parameters]} if parameters else {}, ["eq", "str"] if parameters else [])
        for name, parameters in ROWS.items()
    },
    "runs.py": {"Outcome": ({"__init__": ["self", "answers", "store"]}, ["eq"])},
    "programs.py": {
        "Program": (
            {
                "__init__": ["self", "letters", "rows=()"], "read": ["cls", "letters", "text"],
                "without": ["self", "at", "*more"], "__call__": ["self", "name", "store"],
            },
            ["len", "getitem", "iter", "add", "eq", "str"],
        ),
    },
    "sessions.py": {
        "Session": (
            {
                "__init__": ["self", "letters", "pairs=()"], "ask": ["self", "name"], "copied": ["self"],
                "do": ["self", "program"], "undo": ["self"], "trial": ["self"], "within": ["self", "work"],
                "tried": ["self", "programs"],
            },
            ["len"],
        ),
    },
    "desk.py": {"Desk": ({"__init__": ["self"], "say": ["self", "command"]}, ["len"])},
}


def parsed(path):
    return ast.parse(path.read_text(encoding="utf-8"))


def parameters_of(body):
    """The parameters of each function in a file or a class, as they are written."""
    return {
        node.name: ast.unparse(node.args).split(", ")
        for node in body
        if isinstance(node, ast.FunctionDef)
    }


class LayoutTest(unittest.TestCase):
    def files(self):
        return sorted(PACKAGE.glob("*.py"))

    def test_init_is_a_docstring_alone(self):
        tree = parsed(PACKAGE / "__init__.py")
        self.assertEqual(len(tree.body), 1)
        self.assertTrue(ast.get_docstring(tree))

    def test_the_folder_holds_files_of_the_package_alone(self):
        names = [path.name for path in PACKAGE.iterdir() if path.name != "__pycache__"]
        self.assertEqual(sorted(names), [path.name for path in self.files()])

    def test_functions_are_defined_in_their_file(self):
        for file_name, functions in FUNCTIONS.items():
            defined = parameters_of(parsed(PACKAGE / file_name).body)
            for name, parameters in functions.items():
                with self.subTest(file=file_name, name=name):
                    self.assertEqual(defined.get(name), parameters)

    def test_classes_are_defined_in_their_file(self):
        for file_name, classes in CLASSES.items():
            defined = {node.name: node for node in parsed(PACKAGE / file_name).body if isinstance(node, ast.ClassDef)}
            for class_name, (methods, operators) in classes.items():
                found = parameters_of(defined[class_name].body)
                for name, parameters in methods.items():
                    with self.subTest(file=file_name, name=name):
                        self.assertEqual(found.get(name), parameters)
                for name in operators:
                    with self.subTest(file=file_name, name=name):
                        self.assertIn(f"__{name}__", found)

    def test_properties_and_class_methods(self):
        decorated = {
            (node.name, method.name): ast.unparse(method.decorator_list[0])
            for path in self.files()
            for node in parsed(path).body if isinstance(node, ast.ClassDef)
            for method in node.body if isinstance(method, ast.FunctionDef) and method.decorator_list
        }
        for class_name, names in (
            ("Names", ["none", "every", "of", "beginning", "family"]), ("Bound", ["ahead", "behind", "past", "end"]),
            ("Zone", ["under", "only", "everything", "read"]), ("Program", ["read"]),
        ):
            for name in names:
                self.assertEqual(decorated[(class_name, name)], "classmethod")
        for name in ("size", "least"):
            self.assertEqual(decorated[("Names", name)], "property")
        setters = [
            ast.unparse(method.decorator_list[0])
            for node in parsed(PACKAGE / "sessions.py").body if isinstance(node, ast.ClassDef) and node.name == "Session"
            for method in node.body if isinstance(method, ast.FunctionDef) and method.name == "name"
        ]
        self.assertEqual(setters, ["property", "name.setter"])

    def test_sizes(self):
        for path in self.files():
            with self.subTest(file=path.name):
                lines = path.read_text(encoding="utf-8").splitlines()
                self.assertLessEqual(len(lines), MOST_FILE_LINES)
                self.assertLessEqual(max(map(len, lines)), MOST_LINE_CHARACTERS)
                for node in ast.walk(parsed(path)):
                    if isinstance(node, ast.FunctionDef):
                        self.assertLessEqual(node.end_lineno - node.lineno + 1, MOST_FUNCTION_LINES)

    def test_characters(self):
        for path in self.files():
            with self.subTest(file=path.name):
                characters = set(path.read_text(encoding="utf-8"))
                self.assertEqual([c for c in sorted(characters) if c != "\n" and not " " <= c <= "~"], [])

    def test_imports_are_from_the_package(self):
        for path in self.files():
            for node in ast.walk(parsed(path)):
                with self.subTest(file=path.name):
                    self.assertNotIsInstance(node, ast.Import)
                    if isinstance(node, ast.ImportFrom):
                        self.assertEqual(node.level, 0)
                        self.assertTrue(node.module.startswith("undername."))


if __name__ == "__main__":
    unittest.main()

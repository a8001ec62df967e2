import ast
import unittest
from pathlib import Path

PACKAGE = Path(__file__).resolve().parent.parent / "undername"
MOST_FILE_LINES = 399
MOST_LINE_CHARACTERS = 120
MOST_FUNCTION_LINES = 40

# The functions of the interface with their parameters, by file.
FUNCTIONS = {
    "texts.py": {
        "check_letters": ["letters"],
        "is_text": ["letters", "value"],
        "raised": ["letters", "text"],
        "room": ["letters", "low", "high"],
        "number_of": ["letters", "name"],
        "name_at": ["letters", "number"],
    },
    "words.py": {
        "root": ["word"],
        "shared": ["word", "name"],
        "same_words": ["one", "other"],
    },
}


def parsed(path):
    return ast.parse(path.read_text(encoding="utf-8"))


class LayoutTest(unittest.TestCase):
    def files(self):
        return sorted(PACKAGE.glob("*.py"))

    def test_init_is_a_docstring_alone(self):
        tree = parsed(PACKAGE / "__init__.py")
        self.assertEqual(len(tree.body), 1)
        self.assertTrue(ast.get_docstring(tree))

    def test_the_folder_holds_files_of_the_package_alone(self):
        names = [path.name for path in PACKAGE.iterdir() if path.name != "__pycache__"]
        self.assertEqual(sorted(names), [path.name for path in self.files()])

    def test_interface_is_defined_in_its_file(self):
        for file_name, functions in FUNCTIONS.items():
            defined = {
                node.name: [argument.arg for argument in node.args.args]
                for node in parsed(PACKAGE / file_name).body
                if isinstance(node, ast.FunctionDef)
            }
            for name, parameters in functions.items():
                with self.subTest(file=file_name, name=name):
                    self.assertEqual(defined.get(name), parameters)

    def test_sizes(self):
        for path in self.files():
            with self.subTest(file=path.name):
                lines = path.read_text(encoding="utf-8").splitlines()
                self.assertLessEqual(len(lines), MOST_FILE_LINES)
                self.assertLessEqual(max(map(len, lines)), MOST_LINE_CHARACTERS)
                for node in ast.walk(parsed(path)):
                    if isinstance(node, ast.FunctionDef):
                        self.assertLessEqual(node.end_lineno - node.lineno + 1, MOST_FUNCTION_LINES)

    def test_characters(self):
        for path in self.files():
            with self.subTest(file=path.name):
                characters = set(path.read_text(encoding="utf-8"))
                self.assertEqual([c for c in sorted(characters) if c != "\n" and not " " <= c <= "~"], [])

    def test_imports_are_from_the_package(self):
        for path in self.files():
            for node in ast.walk(parsed(path)):
                with self.subTest(file=path.name):
                    self.assertNotIsInstance(node, ast.Import)
                    if isinstance(node, ast.ImportFrom):
                        self.assertEqual(node.level, 0)
                        self.assertTrue(node.module.startswith("undername."))


if __name__ == "__main__":
    unittest.main()

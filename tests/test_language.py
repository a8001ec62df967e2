"""Rules of ../shared/LANGUAGE.md that the source of the package itself can show.

They are checked more narrowly than they are written where that is simpler.
"""

import ast
import builtins
import unittest
from pathlib import Path

PACKAGE = Path(__file__).resolve().parent.parent / "undername"

BUILTINS = set(
    "len range enumerate zip min max sum abs sorted reversed int str bool list tuple dict set isinstance ord repr any all"
    " divmod Exception ValueError TypeError KeyError IndexError LookupError ZeroDivisionError NotImplemented property"
    " classmethod staticmethod".split()
)
METHODS = set(
    "append clear copy count endswith extend find get index insert isalnum isalpha isdigit islower isspace isupper items"
    " join keys ljust lower lstrip partition pop remove replace reverse rfind rjust rpartition rsplit rstrip setdefault"
    " split splitlines startswith strip update upper values zfill bit_length".split()
)
CHANGING = set("append clear extend insert pop remove reverse setdefault update add discard sort".split())
NOT_USED = set(
    "register mro elements open input law version_info with_traceback add_note attrgetter breakpoint builtins compile"
    " copyright credits delattr dir eval exec exit gc getattr globals hasattr help id importlib license locals"
    " methodcaller os quit setattr super type vars sys".split()
)
OPERATORS = set(
    "__lt__ __le__ __gt__ __ge__ __ne__ __add__ __sub__ __mul__ __floordiv__ __and__ __or__ __xor__ __radd__ __rmul__"
    " __invert__ __bool__ __contains__ __getitem__ __eq__ __str__ __repr__ __len__".split()
)
COMPREHENSIONS = (ast.ListComp, ast.DictComp, ast.SetComp)


def functions_of(tree):
    return [node for node in ast.walk(tree) if isinstance(node, ast.FunctionDef)]


def classes_of(tree):
    return [node for node in tree.body if isinstance(node, ast.ClassDef)]


def parameters_of(function):
    return {argument.arg for argument in function.args.args + function.args.kwonlyargs}


def stored_names(node):
    return {name.id for name in ast.walk(node) if isinstance(name, ast.Name) and isinstance(name.ctx, ast.Store)}


def is_plain(node):
    """Plainly a number or a string."""
    if isinstance(node, ast.BinOp):
        return isinstance(node.op, ast.Add) and is_plain(node.left) and is_plain(node.right)
    if isinstance(node, ast.Call):
        return isinstance(node.func, ast.Name) and node.func.id in ("len", "int", "ord", "str", "repr")
    return isinstance(node, (ast.Constant, ast.JoinedStr))


def is_plain_list(node):
    """Plainly a list, or a set in sorted(..), of numbers or strings."""
    if isinstance(node, ast.ListComp):
        return is_plain(node.elt)
    if isinstance(node, ast.Call) and isinstance(node.func, ast.Name) and node.func.id == "set":
        return is_plain_list(node.args[0])
    return isinstance(node, ast.List) and all(is_plain(item) for item in node.elts)


class LanguageTest(unittest.TestCase):
    def setUp(self):
        self.trees = {path.name: ast.parse(path.read_text(encoding="utf-8")) for path in sorted(PACKAGE.glob("*.py"))}
        self.methods = {
            method.name: [
                (file_name, other) for file_name, tree in self.trees.items() for owner in classes_of(tree)
                for other in owner.body if isinstance(other, ast.FunctionDef) and other.name == method.name
            ]
            for tree in self.trees.values() for owner in classes_of(tree)
            for method in owner.body if isinstance(method, ast.FunctionDef)
        }

    def nodes(self, kinds):
        for file_name, tree in self.trees.items():
            for node in ast.walk(tree):
                if isinstance(node, kinds):
                    yield f"{file_name}:{getattr(node, 'lineno', 1)}", node

    def test_builtins(self):
        """L8."""
        for place, node in self.nodes(ast.Name):
            if isinstance(node.ctx, ast.Load) and hasattr(builtins, node.id):
                self.assertIn(node.id, BUILTINS, place)

    def test_names(self):
        """L12, L15, L17."""
        for file_name, tree in self.trees.items():
            taken = {owner.name for owner in classes_of(tree)} | NOT_USED | set(dir(builtins))
            for node in tree.body:
                if isinstance(node, ast.ImportFrom):
                    taken |= {alias.name for alias in node.names}
            for function in functions_of(tree):
                for name in parameters_of(function) | stored_names(function):
                    self.assertNotIn(name, taken, f"{file_name}:{function.name}")
            for node in ast.walk(tree):
                if isinstance(node, ast.Name) and node.id == "_":
                    self.assertIsInstance(node.ctx, ast.Store, file_name)

    def test_imports_are_used(self):
        for file_name, tree in self.trees.items():
            read = {node.id for node in ast.walk(tree) if isinstance(node, ast.Name)}
            for node in tree.body:
                if isinstance(node, ast.ImportFrom):
                    self.assertLessEqual({alias.name for alias in node.names}, read, file_name)

    def test_calls(self):
        """L7, L25: what is called is a name, or a method of a builtin value or of the package."""
        for place, node in self.nodes(ast.Call):
            if isinstance(node.func, ast.Attribute):
                self.assertIn(node.func.attr, METHODS | set(self.methods), place)
            else:
                self.assertIsInstance(node.func, ast.Name, place)

    def test_signs(self):
        """L5, L7, L27."""
        for place, node in self.nodes(ast.BinOp):
            self.assertNotIsInstance(node.op, (ast.Div, ast.Pow, ast.MatMult), place)
        for place, node in self.nodes(ast.Constant):
            self.assertNotIsInstance(node.value, float, place)
            if isinstance(node.value, str):
                self.assertNotIn("%", node.value, place)
        # Beside __radd__, operators may add up literal integers alone.
        for place, node in self.nodes(ast.AugAssign):
            self.assertEqual((type(node.op), type(node.target)), (ast.Add, ast.Name), place)
            self.assertIsInstance(node.value, ast.Constant, place)

    def test_sorted_min_and_max(self):
        """L5: beside classes that compare they take plain numbers and strings."""
        for place, node in self.nodes(ast.Call):
            if isinstance(node.func, ast.Name) and node.func.id in ("sorted", "min", "max"):
                self.assertEqual(node.keywords, [], place)
                is_fine = [is_plain(argument) for argument in node.args]
                self.assertTrue(any(is_fine) if len(is_fine) == 2 else is_plain_list(node.args[0]), place)

    def test_generator_expressions(self):
        """L7: not beside classes with __eq__."""
        self.assertEqual([place for place, _ in self.nodes(ast.GeneratorExp)], [])

    def test_loops_change_nothing_that_they_go_over(self):
        """L23."""
        for place, loop in self.nodes(ast.For):
            read = {node.id for node in ast.walk(loop.iter) if isinstance(node, ast.Name)}
            for row in loop.body:
                for changed in changed_in(row):
                    self.assertNotIn(changed, read, place)

    def test_names_in_nested_comprehensions(self):
        """L7."""
        for place, function in self.nodes(ast.FunctionDef):
            outer = {name for row in function.body for name in names_outside_comprehensions(row)} | parameters_of(function)
            for outermost in ast.walk(function):
                if not isinstance(outermost, COMPREHENSIONS):
                    continue
                for inner in ast.walk(outermost):
                    if isinstance(inner, COMPREHENSIONS) and inner is not outermost:
                        self.assertEqual(stored_names(inner) & outer - {"_"}, set(), place)

    def test_operators_and_properties_change_nothing(self):
        """L5: nor does anything that they call, but for lists and dicts of its own."""
        for file_name, function in self.run_by_operators():
            if function.name != "__init__":
                self.assert_changes_nothing(file_name, function)

    def test_operators_and_properties_call_nothing_that_they_hold(self):
        """L5, L28: nor does anything that they call; a method that has the name of an attribute may be held, too."""
        attributes = {node.attr for _, node in self.nodes(ast.Attribute) if isinstance(node.ctx, ast.Store)}
        self.assertIn("count", attributes)
        for file_name, function in self.run_by_operators():
            for node in ast.walk(function):
                if not isinstance(node, ast.Call):
                    continue
                place = f"{file_name}:{node.lineno}"
                if isinstance(node.func, ast.Attribute):
                    self.assertNotIn(node.func.attr, attributes, place)
                else:
                    self.assertNotIn(node.func.id, parameters_of(function) | stored_names(function), place)

    def run_by_operators(self):
        """All that operators and properties run, as pairs of a file and a function, by the names that are called."""
        waiting = [
            found for name, rows in self.methods.items() for found in rows
            if name in OPERATORS or [node for node in found[1].decorator_list if ast.unparse(node) == "property"]
        ]
        met = []
        while waiting:
            found = waiting.pop()
            if found not in met:
                met.append(found)
                waiting.extend(self.called_by(found[1]))
        self.assertTrue(met)
        return met

    def assert_changes_nothing(self, file_name, function):
        place = f"{file_name}:{function.name}"
        own = own_names(function)
        for node in ast.walk(function):
            if isinstance(node, ast.Attribute):
                self.assertIsInstance(node.ctx, ast.Load, place)
        for row in function.body:
            for changed in changed_in(row):
                self.assertIn(changed, own, place)

    def called_by(self, function):
        called = {ast.unparse(node.func).rpartition(".")[2] for node in ast.walk(function) if isinstance(node, ast.Call)}
        for file_name, tree in self.trees.items():
            for node in tree.body:
                if isinstance(node, ast.FunctionDef) and node.name in called:
                    yield file_name, node
                if isinstance(node, ast.ClassDef) and node.name in called:
                    yield from [(file_name, row) for row in node.body if isinstance(row, ast.FunctionDef) and row.name == "__init__"]
        for name in called & set(self.methods):
            yield from self.methods[name]


def changed_in(row):
    """What rows change by an item or by a method, as it is written."""
    changed = []
    for node in ast.walk(row):
        if isinstance(node, ast.Call) and isinstance(node.func, ast.Attribute) and node.func.attr in CHANGING:
            changed.append(ast.unparse(node.func.value))
        if isinstance(node, ast.Subscript) and not isinstance(node.ctx, ast.Load):
            changed.append(ast.unparse(node.value))
    return changed


def own_names(function):
    """The variables that are only ever lists and dicts that the function makes itself."""
    values = {}
    for node in ast.walk(function):
        if isinstance(node, ast.Assign):
            for target in node.targets:
                for name in stored_names(target):
                    values.setdefault(name, []).append(node.value if isinstance(target, ast.Name) else None)
    return {name for name, made in values.items() if all(is_made_here(value) for value in made)} - parameters_of(function)


def is_made_here(value):
    if isinstance(value, ast.Call) and isinstance(value.func, ast.Name):
        return value.func.id in ("list", "dict", "sorted")
    return isinstance(value, (ast.List, ast.ListComp, ast.Dict))


def names_outside_comprehensions(node):
    if isinstance(node, COMPREHENSIONS):
        return set()
    if isinstance(node, ast.Name):
        return {node.id} if isinstance(node.ctx, ast.Store) else set()
    return {name for child in ast.iter_child_nodes(node) for name in names_outside_comprehensions(child)}


if __name__ == "__main__":
    unittest.main()

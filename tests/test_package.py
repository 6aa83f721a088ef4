"""What stands where in the package, and that it uses nothing of the machine."""
import ast
import unittest
from pathlib import Path

FOLDER = Path(__file__).resolve().parent.parent / "rightskept"

# What the interface lists, with the names of the arguments.
INTERFACE = {
    "errors.py": {"RightsError": ["reason"], "TextError": ["line", "reason"]},
    "types.py": {"is_right": ["thing"], "is_type": ["thing"], "is_value_type": ["thing"], "within": ["one", "two"],
                 "converts": ["one", "two"], "are_alike": ["one", "two"], "plain": ["one"], "bar": ["one", "two"],
                 "is_bar": ["one", "two", "letters", "letter"], "joins": ["one", "two"], "meets": ["one", "two"]},
    "programs.py": {"Function": ["name", "params", "body"], "Program": ["functions", "statements"],
                    "is_sketch": ["program"], "variables": ["program"], "with_table": ["sketch", "table"]},
    "judging.py": {"faults": ["program", "extra"], "is_let_by": ["program", "extra"]},
    "running.py": {"run": ["program", "extra"]},
    "machines.py": {"Machine": ["functions", "extra"]},
    "breaking.py": {"breaking": ["one", "two"], "is_breaking": ["one", "two", "program"]},
    "sketches.py": {"shape_faults": ["sketch"], "rules": ["sketch", "f", "k"], "least": ["sketch"],
                    "is_under": ["table", "ceilings"], "fulfils": ["sketch", "table"],
                    "barred": ["sketch", "ceilings"]},
    "derivations.py": {"derivation": ["sketch", "claim"], "is_derivation": ["sketch", "steps", "claim"]},
    "texts.py": {"text_of": ["program"], "read_program": ["text"]},
}

METHODS = {
    "machines.py": {"Machine": {"do": ["statement"], "undo": [], "breaches": [], "things": [], "type_of": ["name"]}},
}


def tree_of(path):
    return ast.parse(path.read_text())


def arguments_of(node):
    """The names of the arguments of a function, or those with which a class is called."""
    if isinstance(node, ast.ClassDef):
        node = [part for part in node.body if isinstance(part, ast.FunctionDef) and part.name == "__init__"][0]
        return [part.arg for part in node.args.args[1:]]
    return [part.arg for part in node.args.args]


class PackageTest(unittest.TestCase):
    def test_interface_is_defined_in_its_files(self):
        for name, wanted in INTERFACE.items():
            defined = {node.name: node for node in tree_of(FOLDER / name).body
                       if isinstance(node, (ast.FunctionDef, ast.ClassDef))}
            for word, arguments in wanted.items():
                self.assertIn(word, defined)
                self.assertEqual(arguments_of(defined[word]), arguments, word)

    def test_methods_are_defined_in_their_classes(self):
        for name, classes in METHODS.items():
            for node in tree_of(FOLDER / name).body:
                if isinstance(node, ast.ClassDef):
                    defined = {part.name: part for part in node.body if isinstance(part, ast.FunctionDef)}
                    for word, arguments in classes.pop(node.name, {}).items():
                        self.assertIn(word, defined)
                        self.assertEqual(arguments_of(defined[word])[1:], arguments, word)
            self.assertEqual(classes, {})

    def test_imports_nothing_from_outside(self):
        for path in sorted(FOLDER.rglob("*.py")):
            for node in ast.walk(tree_of(path)):
                self.assertNotIsInstance(node, ast.Import, path)
                if isinstance(node, ast.ImportFrom):
                    self.assertTrue(node.module.startswith("rightskept."), path)
                if isinstance(node, ast.Name):
                    self.assertNotIn(node.id, ("open", "input", "print", "hash", "id", "__import__", "eval", "exec"))

    def test_no_state_at_module_level(self):
        for path in sorted(FOLDER.rglob("*.py")):
            for node in tree_of(path).body:
                self.assertIsInstance(node, (ast.Expr, ast.ImportFrom, ast.Assign, ast.FunctionDef, ast.ClassDef))
                if isinstance(node, ast.Assign):
                    self.assertIsInstance(ast.literal_eval(node.value), (int, str, tuple), path)

"""The package keeps to its small subset of Python: what of this can be seen in its files."""

import ast
import builtins
import pathlib
import unittest

PACKAGE = pathlib.Path(__file__).resolve().parent.parent / "staybars"
FILES = sorted(PACKAGE.glob("*.py"))
# The shown value of a prompt, which doctest keeps among the builtins, is none of them.
BUILT_IN = set(dir(builtins)) - {"_"}
BUILTINS = """len range enumerate zip min max sum abs sorted reversed int str bool list tuple dict set isinstance ord repr
any all divmod type property ValueError""".split()
METHODS = "append count extend setdefault find get index items join keys pop values sort split startswith insert remove __init__".split()
BARRED = """register mro elements open input law eval exec exit globals locals vars dir id type typing enum hash next iter
compile format copyright credits help license quit""".split()
# What a try may catch: errors of the package alone.
CAUGHT = ("StayError", "BadText", "BadLog")


def names_bound(tree):
    """The names that functions, parameters, assignments and loops of a file bind."""
    for node in ast.walk(tree):
        if isinstance(node, (ast.FunctionDef, ast.ClassDef)) and node.name != "__init__":
            yield node.name
        if isinstance(node, ast.arg):
            yield node.arg
        if isinstance(node, ast.Name) and isinstance(node.ctx, ast.Store):
            yield node.id


def tops(tree):
    """The statements of a file below its docstring."""
    return tree.body[1:]


def methods_in(tree):
    """The functions in the bodies of a file's classes."""
    return [node for top in tree.body if isinstance(top, ast.ClassDef) for node in top.body if isinstance(node, ast.FunctionDef)]


def own_methods():
    """The names of the methods of all classes of the package."""
    return [node.name for path in FILES for node in methods_in(ast.parse(path.read_text(encoding="ascii")))]


class TestLanguage(unittest.TestCase):
    def each(self):
        """Each file with its text and its tree."""
        texts = [path.read_text(encoding="ascii") for path in FILES]
        return [(path, text, ast.parse(text, path.name)) for path, text in zip(FILES, texts)]

    def test_the_folder_holds_only_python_files(self):
        held = [path.name for path in PACKAGE.iterdir() if path.name != "__pycache__"]
        self.assertEqual(sorted(held), sorted(path.name for path in FILES))
        self.assertIn("__init__.py", held)
        self.assertLessEqual(len(held), 100)

    def test_sizes_and_characters(self):
        for _, text, tree in self.each():
            rows = text.split("\n")
            self.assertLessEqual(len(rows), 399)
            self.assertLessEqual(max(len(row) for row in rows), 120)
            self.assertTrue(all(sign == "\n" or " " <= sign <= "~" for sign in text))
            for node in ast.walk(tree):
                if isinstance(node, ast.FunctionDef):
                    self.assertLessEqual(node.end_lineno - node.lineno + 1, 40, node.name)

    def test_module_level(self):
        for _, _, tree in self.each():
            self.assertIsNotNone(ast.get_docstring(tree))
            for node in tops(tree):
                self.assertIsInstance(node, (ast.ImportFrom, ast.FunctionDef, ast.ClassDef, ast.Assign))
                if isinstance(node, ast.Assign):
                    ast.literal_eval(node.value)
                if isinstance(node, (ast.FunctionDef, ast.ClassDef)):
                    self.assertEqual(node.decorator_list, [])
                    self.assertIsNotNone(ast.get_docstring(node), node.name)

    def test_classes(self):
        properties = []
        for _, _, tree in self.each():
            for top in tree.body:
                if isinstance(top, ast.ClassDef):
                    names = [node.name for node in top.body if isinstance(node, ast.FunctionDef)]
                    self.assertEqual(len(names), len(set(names)))
                    attributes = [node.attr for node in ast.walk(top) if isinstance(node, ast.Attribute) and isinstance(node.ctx, ast.Store)]
                    self.assertFalse(set(names) & set(attributes))
            for node in methods_in(tree):
                self.assertIn([ast.unparse(held) for held in node.decorator_list], ([], ["property"]))
                self.assertTrue(node.name == "__init__" or ast.get_docstring(node), node.name)
                if node.decorator_list:
                    properties.append(node.name)
        for _, _, tree in self.each():
            stored = [node.attr for node in ast.walk(tree) if isinstance(node, ast.Attribute) and isinstance(node.ctx, ast.Store)]
            self.assertFalse(set(properties) & set(stored))
        self.assertEqual(properties, ["net", "first"])

    def test_what_is_caught_and_what_a_class_is_asked(self):
        for _, _, tree in self.each():
            for node in ast.walk(tree):
                if isinstance(node, ast.Try):
                    self.assertEqual([node.orelse, node.finalbody], [[], []])
                    for handler in node.handlers:
                        self.assertIn(handler.type.id, CAUGHT)
                if isinstance(node, ast.Raise) and node.exc is not None:
                    self.assertIsInstance(node.exc, ast.Call)
                    self.assertTrue(node.cause is None or node.cause.value is None)
            # A class of an object is asked for its name alone.
            asked = [node.value for node in ast.walk(tree) if isinstance(node, ast.Attribute) and node.attr == "__name__"]
            calls = [node for node in ast.walk(tree) if isinstance(node, ast.Call) and isinstance(node.func, ast.Name) and node.func.id == "type"]
            self.assertEqual(asked, calls)

    def test_each_name_is_bound_once_at_module_level(self):
        for _, _, tree in self.each():
            bound = []
            for node in tops(tree):
                if isinstance(node, ast.ImportFrom):
                    bound.extend(alias.name for alias in node.names)
                elif isinstance(node, ast.Assign):
                    bound.extend(target.id for target in node.targets)
                else:
                    bound.append(node.name)
            self.assertEqual(len(bound), len(set(bound)))

    def test_imports_name_the_file_that_defines_them_and_go_one_way(self):
        ahead = {}
        for path, text, tree in self.each():
            imports = [node for node in ast.walk(tree) if isinstance(node, (ast.Import, ast.ImportFrom))]
            ahead[path.stem] = set()
            for node in imports:
                self.assertIsInstance(node, ast.ImportFrom)
                self.assertEqual(node.level, 0)
                package, file = node.module.split(".")
                self.assertEqual(package, "staybars")
                ahead[path.stem].add(file)
                defined = [top for top in tops(ast.parse((PACKAGE / (file + ".py")).read_text()))]
                names = [top.name for top in defined if isinstance(top, (ast.FunctionDef, ast.ClassDef))]
                names += [top.targets[0].id for top in defined if isinstance(top, ast.Assign)]
                for alias in node.names:
                    self.assertIsNone(alias.asname)
                    self.assertIn(alias.name, names)
                    self.assertGreater(len(text.split(alias.name)), 2, f"{alias.name} is not used")
        while ahead:
            free = [file for file in ahead if not ahead[file] & set(ahead)]
            self.assertTrue(free, "files that import from each other")
            for file in free:
                del ahead[file]

    def test_names(self):
        for _, _, tree in self.each():
            imported = [alias.name for node in ast.walk(tree) if isinstance(node, ast.ImportFrom) for alias in node.names]
            defined = [node.name for node in tree.body if isinstance(node, (ast.FunctionDef, ast.ClassDef))]
            for name in names_bound(tree):
                self.assertNotIn(name, BARRED)
                self.assertNotIn(name, imported)
                self.assertNotIn(name, BUILT_IN)
                self.assertFalse(name.startswith("__"), name)
            for node in ast.walk(tree):
                if isinstance(node, ast.arg) or (isinstance(node, ast.Name) and isinstance(node.ctx, ast.Store)):
                    self.assertNotIn(node.arg if isinstance(node, ast.arg) else node.id, defined)

    def test_builtins_and_methods(self):
        own = own_methods()
        for _, _, tree in self.each():
            for node in ast.walk(tree):
                if isinstance(node, ast.Name) and node.id in BUILT_IN:
                    self.assertIn(node.id, BUILTINS)
                if isinstance(node, ast.Name) and node.id == "_":
                    self.assertIsInstance(node.ctx, ast.Store)
                if isinstance(node, ast.Call) and isinstance(node.func, ast.Attribute):
                    self.assertIn(node.func.attr, METHODS + own)

    def test_statements(self):
        barred = (
            ast.Global, ast.AsyncFunctionDef, ast.Lambda, ast.With, ast.Yield, ast.YieldFrom, ast.JoinedStr,
            ast.NamedExpr, ast.Div, ast.Pow, ast.SetComp, ast.AnnAssign, ast.GeneratorExp,
        )
        for _, _, tree in self.each():
            for node in ast.walk(tree):
                self.assertNotIsInstance(node, barred)
                if isinstance(node, ast.Constant):
                    self.assertIn(type(node.value), (int, str, bool, type(None)))
                if isinstance(node, ast.Compare) and isinstance(node.ops[0], (ast.Is, ast.IsNot)):
                    self.assertIsNone(node.comparators[0].value)


if __name__ == "__main__":
    unittest.main()

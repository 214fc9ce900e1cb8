"""Those rules of the language of the package that can be seen from outside, row by row."""

import ast
import builtins
import unittest
from pathlib import Path

PACKAGE = Path(__file__).parent.parent / "boneways"
FILES = sorted(PACKAGE.rglob("*.py"))
# The builtins that the package may use, the methods of builtin values, and names that nothing has.
BUILTINS = set("""len range enumerate zip min max sum abs sorted reversed int str bool bytes list tuple dict set
    frozenset isinstance ord repr any all divmod pow Exception ValueError TypeError KeyError IndexError LookupError
    ZeroDivisionError ArithmeticError OverflowError RuntimeError NotImplementedError StopIteration""".split())
METHODS = set("""append clear copy count endswith extend find get index insert isalnum isalpha isdigit islower isspace
    isupper items join keys ljust lower lstrip partition pop remove replace reverse rfind rjust rpartition rsplit rstrip
    setdefault split splitlines startswith strip update upper values zfill bit_length add discard""".split())
BARRED = set("""register mro elements open input law version_info with_traceback add_note compile dir eval exec exit gc
    globals help id license locals os quit type vars super sys typing enum map filter round hash iter next""".split())
# The attributes of the package's own errors and classes.
ATTRIBUTES = {"place", "word", "standing", "home"}
# What may be imported from the library, in files of these names.
LIBRARY = {"itertools": {"combinations", "permutations"}}
STATEMENTS = (ast.Assign, ast.AugAssign, ast.If, ast.While, ast.For, ast.Return, ast.Break, ast.Continue, ast.Pass,
              ast.Raise, ast.Assert, ast.Delete, ast.Try, ast.Expr, ast.FunctionDef, ast.ClassDef, ast.ImportFrom)


def trees():
    return [(path, ast.parse(path.read_text())) for path in FILES]


def functions_in(tree):
    return [node for node in ast.walk(tree) if isinstance(node, ast.FunctionDef)]


def own_methods():
    """The names of the methods of all classes of the package."""
    classes = [node for _, tree in trees() for node in ast.walk(tree) if isinstance(node, ast.ClassDef)]
    return {each.name for node in classes for each in node.body if isinstance(each, ast.FunctionDef)}


def imports_in(tree):
    return [node for node in ast.walk(tree) if isinstance(node, (ast.Import, ast.ImportFrom))]


def names_bound(node):
    """The names of parameters and of what is assigned within a node."""
    stored = [each.id for each in ast.walk(node) if isinstance(each, ast.Name) and isinstance(each.ctx, ast.Store)]
    return stored + [each.arg for each in ast.walk(node) if isinstance(each, ast.arg)]


class Language(unittest.TestCase):
    def test_the_folder_has_files_of_python_alone(self):
        found = [path for path in PACKAGE.iterdir() if path.name != "__pycache__"]
        self.assertEqual([path for path in found if path.suffix != ".py"], [])
        self.assertIn(PACKAGE / "__init__.py", found)

    def test_sizes_and_signs(self):
        for path in FILES:
            text = path.read_text()
            self.assertTrue(all(sign == "\n" or " " <= sign <= "~" for sign in text), path)
            self.assertLessEqual(len(text.splitlines()), 399, path)
            self.assertEqual([line for line in text.splitlines() if len(line) > 120], [])
        for path, tree in trees():
            for node in functions_in(tree):
                self.assertLessEqual(node.end_lineno - node.lineno + 1, 40, node.name)

    def test_imports(self):
        needs = {}
        for path, tree in trees():
            needs[path.stem] = set()
            for node in imports_in(tree):
                self.assertIsInstance(node, ast.ImportFrom)
                if node.module in LIBRARY:
                    self.assertLessEqual({alias.name for alias in node.names}, LIBRARY[node.module])
                    continue
                self.assertTrue(node.module.startswith("boneways.") and node.level == 0)
                stem = node.module.partition(".")[2]
                needs[path.stem].add(stem)
                home = ast.parse((PACKAGE / f"{stem}.py").read_text()).body
                bound = {each.name for each in home if isinstance(each, (ast.FunctionDef, ast.ClassDef))}
                bound |= {each.targets[0].id for each in home if isinstance(each, ast.Assign)}
                for alias in node.names:
                    self.assertIsNone(alias.asname)
                    self.assertIn(alias.name, bound)
        while needs:
            ready = [stem for stem in needs if not needs[stem] & set(needs)]
            self.assertNotEqual(ready, [], "files import from each other in a ring")
            needs = {stem: needs[stem] for stem in needs if stem not in ready}

    def test_all_that_is_imported_is_used(self):
        for path, tree in trees():
            used = {node.id for node in ast.walk(tree) if isinstance(node, ast.Name)}
            for node in imports_in(tree):
                for alias in node.names:
                    self.assertIn(alias.name, used, path)

    def test_names(self):
        for path, tree in trees():
            imported = {alias.name for node in imports_in(tree) for alias in node.names}
            top = [each.name for each in tree.body if isinstance(each, (ast.FunctionDef, ast.ClassDef))]
            top += [each.targets[0].id for each in tree.body if isinstance(each, ast.Assign)]
            self.assertEqual(len(top + list(imported)), len(set(top) | imported), path)
            for name in top + [name for node in functions_in(tree) for name in names_bound(node)]:
                self.assertNotIn(name, BARRED, path)
                self.assertFalse(hasattr(builtins, name) and name != "_", (path, name))
            for node in functions_in(tree):
                self.assertEqual(set(names_bound(node)) & (imported | set(top)), set(), (path, node.name))

    def test_builtins_and_methods(self):
        known = METHODS | ATTRIBUTES | own_methods()
        for path, tree in trees():
            for node in ast.walk(tree):
                if isinstance(node, ast.Name) and hasattr(builtins, node.id) and node.id != "_":
                    self.assertIn(node.id, BUILTINS, path)
                if isinstance(node, ast.Attribute):
                    self.assertIn(node.attr, known, path)

    def test_methods_and_attributes(self):
        own = own_methods() - {"__init__"}
        self.assertEqual(own & (METHODS | ATTRIBUTES | BUILTINS), set())
        for kind in (str, int, list, tuple, dict, set, bytes):
            self.assertEqual([name for name in own | ATTRIBUTES if hasattr(kind, name)], [])
        for path, tree in trees():
            for node in ast.walk(tree):
                # Attributes are assigned through a local name, never on a class.
                if isinstance(node, ast.Attribute) and isinstance(node.ctx, ast.Store):
                    self.assertIn(node.value.id, ("self", "other"), path)
                    self.assertIn(node.attr, ATTRIBUTES, path)

    def test_statements_and_values(self):
        for path, tree in trees():
            for node in ast.walk(tree):
                if isinstance(node, ast.stmt):
                    self.assertIsInstance(node, STATEMENTS, (path, node.lineno))
                if isinstance(node, ast.Constant):
                    self.assertNotIsInstance(node.value, (float, complex))
                    self.assertNotIn("%", node.value if isinstance(node.value, str) else "")
                if isinstance(node, (ast.Div, ast.Await, ast.Yield, ast.YieldFrom, ast.NamedExpr)):
                    self.fail((path, node))
                if isinstance(node, (ast.FunctionDef, ast.ClassDef)):
                    self.assertEqual(node.decorator_list, [])
                if isinstance(node, ast.Compare) and isinstance(node.ops[0], (ast.Is, ast.IsNot)):
                    self.assertIsNone(node.comparators[0].value)

    def test_each_file_function_and_class_tells_what_it_is(self):
        for path, tree in trees():
            self.assertTrue(ast.get_docstring(tree), path)
            for node in ast.walk(tree):
                if isinstance(node, (ast.FunctionDef, ast.ClassDef)) and node.name != "__init__":
                    self.assertTrue(ast.get_docstring(node), (path, node.name))


if __name__ == "__main__":
    unittest.main()

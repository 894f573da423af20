"""The package's own files keep to the small part of Python that they are to be written in."""

import ast
import pathlib
import unittest

PACKAGE = pathlib.Path(__file__).parent.parent / 'jumpcontest'

STATEMENTS = (ast.Assign, ast.AugAssign, ast.If, ast.While, ast.For, ast.Return, ast.Break, ast.Continue, ast.Pass,
              ast.Raise, ast.Try, ast.Expr, ast.FunctionDef, ast.ClassDef, ast.ImportFrom)

NO_EXPRESSIONS = (ast.NamedExpr, ast.GeneratorExp, ast.SetComp, ast.DictComp, ast.Starred, ast.Await, ast.Yield,
                  ast.YieldFrom, ast.Div)

OF_PYTHON = set('''len range enumerate zip min max sum abs sorted reversed int str bool list tuple dict set frozenset
    isinstance ord repr any all divmod Exception ValueError TypeError KeyError IndexError LookupError
    ZeroDivisionError ArithmeticError OverflowError RuntimeError NotImplementedError AttributeError
    StopIteration'''.split())

METHODS = set('''append clear copy count endswith extend find get index insert isalnum isalpha isdigit islower isspace
    isupper items join keys ljust lower lstrip partition pop remove replace reverse rfind rjust rpartition rsplit rstrip
    setdefault split splitlines startswith strip update upper values zfill bit_length'''.split())


def files():
    return sorted(PACKAGE.rglob('*.py'))


def nodes(kind):
    """Each node of a kind in the package, with the file and the line for the message."""
    for path in files():
        for node in ast.walk(ast.parse(path.read_text())):
            if isinstance(node, kind):
                yield node, f'{path.name}:{getattr(node, "lineno", 0)}'


def names_given():
    """Every name that the package itself gives to something."""
    found = {node.id for node, place in nodes(ast.Name) if isinstance(node.ctx, ast.Store)}
    found |= {node.arg for node, place in nodes(ast.arg)}
    found |= {node.name for node, place in nodes((ast.FunctionDef, ast.ClassDef))}
    return found | {node.attr for node, place in nodes(ast.Attribute) if isinstance(node.ctx, ast.Store)}


class LanguageTest(unittest.TestCase):

    def test_there_are_files(self):
        self.assertIn(PACKAGE / 'contest.py', files())

    def test_nothing_else_lies_in_the_package(self):
        others = [path for path in PACKAGE.rglob('*') if '__pycache__' not in path.parts and path.suffix != '.py']
        self.assertEqual(others, [])

    def test_sizes_and_signs(self):
        for path in files():
            rows = path.read_text().split('\n')
            self.assertLessEqual(len(rows), 399, path.name)
            for row in rows:
                self.assertLessEqual(len(row), 120, row)
                self.assertTrue(all(' ' <= sign <= '~' for sign in row), row)
        for node, place in nodes(ast.FunctionDef):
            self.assertLessEqual(node.end_lineno - node.lineno + 1, 40, place)

    def test_statements_and_expressions(self):
        for node, place in nodes(ast.stmt):
            self.assertIsInstance(node, STATEMENTS, place)
        for node, place in nodes(ast.AST):
            self.assertNotIsInstance(node, NO_EXPRESSIONS, place)
        for node, place in nodes(ast.Assign):
            self.assertEqual(len(node.targets), 1, place)
        for node, place in nodes((ast.For, ast.While)):
            self.assertEqual(node.orelse, [], place)

    def test_imports_draw_from_the_file_that_defines_the_name(self):
        for node, place in nodes(ast.ImportFrom):
            self.assertEqual(node.level, 0, place)
            self.assertTrue(node.module.startswith('jumpcontest.'), place)
            tree = ast.parse((PACKAGE.parent / (node.module.replace('.', '/') + '.py')).read_text())
            defined = {entry.name for entry in tree.body if isinstance(entry, (ast.FunctionDef, ast.ClassDef))}
            defined |= {entry.targets[0].id for entry in tree.body if isinstance(entry, ast.Assign)}
            for alias in node.names:
                self.assertIn(alias.name, defined, place)

    def test_names(self):
        given = names_given()
        for name in given - {'__init__'}:
            self.assertRegex(name, '^[A-Za-z][A-Za-z0-9_]*$')
            self.assertNotIn(name, OF_PYTHON)
        imported = {alias.name for node, place in nodes(ast.ImportFrom) for alias in node.names}
        for node, place in nodes(ast.Name):
            self.assertIn(node.id, given | imported | OF_PYTHON, place)
        for node, place in nodes(ast.Attribute):
            self.assertIn(node.attr, given | METHODS, place)

    def test_no_name_is_a_method_and_a_value(self):
        methods = {entry.name for node, place in nodes(ast.ClassDef) for entry in node.body
                   if isinstance(entry, ast.FunctionDef)}
        values = {node.attr for node, place in nodes(ast.Attribute) if isinstance(node.ctx, ast.Store)}
        self.assertEqual(methods & values, set())


if __name__ == '__main__':
    unittest.main()

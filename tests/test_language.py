"""Tests of those rules of LANGUAGE.md that a look at the syntax can decide.

The lists below hold what the package uses so far, not all that the rules allow: what is new in
the package is looked up in LANGUAGE.md first, and added here then.
"""

import ast
import builtins
import re
import unittest
from pathlib import Path

from deskkeepers import errors

PACKAGE = Path(__file__).resolve().parent.parent / 'deskkeepers'
NODES = {'Module', 'Expr', 'Constant', 'ImportFrom', 'alias', 'ClassDef', 'FunctionDef', 'arguments', 'arg', 'Return',
         'Assign', 'AugAssign', 'For', 'While', 'If', 'Raise', 'Try', 'ExceptHandler', 'Break', 'Continue', 'BoolOp', 'And', 'Or',
         'UnaryOp', 'Not', 'USub', 'BinOp', 'Add', 'Sub', 'Mult', 'FloorDiv', 'Mod', 'BitAnd', 'BitOr', 'LShift', 'RShift',
         'Compare', 'Eq', 'NotEq', 'Gt', 'GtE', 'Lt', 'LtE', 'In', 'NotIn', 'Is', 'IsNot', 'Call', 'keyword', 'IfExp',
         'Attribute', 'Subscript', 'Slice', 'JoinedStr', 'FormattedValue', 'Name', 'List', 'Tuple', 'Dict', 'ListComp', 'DictComp', 'SetComp', 'comprehension', 'Load', 'Store'}
BUILTINS = {'ValueError', 'all', 'any', 'bool', 'dict', 'enumerate', 'int', 'isinstance', 'len', 'list', 'max', 'min', 'range',
            'reversed', 'set', 'sorted', 'str', 'sum', 'tuple', 'zip'}
LIBRARY = {('heapq', 'heappop'), ('heapq', 'heappush'), ('itertools', 'combinations'), ('math', 'factorial')}
OWN_ERRORS = {name for name, value in vars(errors).items() if isinstance(value, type)}
BARRED = {'register', 'mro', 'elements', 'open', 'input', 'law', 'version_info', 'with_traceback', 'add_note'}


def files():
    """The files of the package with their texts."""
    return [(path, path.read_text()) for path in sorted(PACKAGE.rglob('*.py'))]


def names_of(node):
    """The names that a node of the syntax gives or uses."""
    return [getattr(node, field) for field in ('id', 'name', 'attr', 'arg') if isinstance(getattr(node, field, None), str)]


class TestLanguage(unittest.TestCase):
    def test_files(self):
        self.assertTrue(files())
        others = [path for path in PACKAGE.iterdir() if path.suffix != '.py' and path.name != '__pycache__']
        self.assertEqual(others, [])
        for path, text in files():
            self.assertRegex(path.stem, '^[a-z][a-z0-9_]*$|^__init__$')
            self.assertLessEqual(len(text.splitlines()), 399, path)
            self.assertTrue(all(sign == '\n' or ' ' <= sign <= '~' for sign in text), path)
            for line in text.splitlines():
                self.assertLessEqual(len(line), 120, path)

    def test_syntax(self):
        for path, text in files():
            for node in ast.walk(ast.parse(text)):
                self.assertIn(type(node).__name__, NODES, path)
                if isinstance(node, ast.FunctionDef):
                    self.assertLessEqual(node.end_lineno - node.lineno + 1, 40, node.name)
                    self.assertEqual(node.decorator_list, [])
                if isinstance(node, ast.Constant):
                    self.assertIn(type(node.value), (int, str, bool, type(None)), path)
                    self.assertNotIn('%', str(node.value), path)
                if isinstance(node, ast.ExceptHandler):
                    self.assertIsNone(node.name)
                    self.assertTrue(OWN_ERRORS.issuperset(error.id for error in getattr(node.type, 'elts', [node.type])))

    def test_imports(self):
        for path, text in files():
            for node in ast.walk(ast.parse(text)):
                if isinstance(node, ast.ImportFrom):
                    self.assertEqual([alias.asname for alias in node.names], [None] * len(node.names))
                    if {(node.module, alias.name) for alias in node.names} <= LIBRARY:
                        continue
                    self.assertRegex(node.module, '^deskkeepers[.][a-z]+$')
                    source = (PACKAGE / (node.module.split('.')[1] + '.py')).read_text()
                    for alias in node.names:
                        self.assertRegex(source, re.compile('^((def|class) )?' + alias.name + r'\b', re.MULTILINE))

    def test_names(self):
        given = set(dir(builtins))
        for path, text in files():
            for node in ast.walk(ast.parse(text)):
                if isinstance(node, ast.Name) and node.id in given:
                    self.assertIsInstance(node.ctx, ast.Load, path)
                    self.assertIn(node.id, BUILTINS, path)
                if isinstance(node, (ast.arg, ast.FunctionDef, ast.ClassDef)):
                    self.assertTrue(given.isdisjoint(names_of(node)), path)
                self.assertTrue(BARRED.isdisjoint(names_of(node)), path)

    def test_no_variable_has_the_name_of_a_class_or_an_import_of_its_file(self):
        for path, text in files():
            nodes = list(ast.walk(ast.parse(text)))
            taken = {node.name for node in nodes if isinstance(node, (ast.alias, ast.ClassDef))}
            for node in nodes:
                if isinstance(node, ast.arg) or isinstance(node, ast.Name) and isinstance(node.ctx, ast.Store):
                    self.assertTrue(taken.isdisjoint(names_of(node)), path)

    def test_no_two_files_import_from_each_other(self):
        sources = {}
        for path, text in files():
            nodes = [node for node in ast.walk(ast.parse(text)) if isinstance(node, ast.ImportFrom)]
            sources[path.stem] = {node.module.split('.')[-1] for node in nodes}
        while sources:
            free = [name for name in sources if sources.keys().isdisjoint(sources[name])]
            self.assertTrue(free, sources)
            for name in free:
                del sources[name]


if __name__ == '__main__':
    unittest.main()

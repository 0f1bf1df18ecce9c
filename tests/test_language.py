"""What can be told by reading the files of the package: rules of the subset it is written in."""

import ast
import builtins
import re
import unittest
import warnings
from pathlib import Path

FOLDER = Path(__file__).resolve().parent.parent / 'mendfew'
FILES = sorted(path for path in FOLDER.rglob('*') if '__pycache__' not in path.parts)
TEXTS = {path.stem: path.read_bytes().decode('ascii') for path in FILES if path.is_file()}
TREES = {name: ast.parse(text) for name, text in TEXTS.items()}

LIBRARY = {
    'math': {'gcd', 'lcm', 'isqrt', 'comb', 'perm', 'factorial'},
    'heapq': {'heappush', 'heappop', 'heapify', 'heapreplace', 'heappushpop'},
}
BUILTINS = set(
    'len range enumerate zip min max sum abs sorted reversed int str bool list tuple dict set isinstance '
    'ord repr any all divmod ValueError TypeError KeyError NotImplemented iter next super property '
    'classmethod staticmethod'.split())
AT_ONCE = ('zip', 'enumerate', 'reversed', 'range', 'map')
TAKERS = ('list', 'tuple', 'dict', 'sorted', 'sum', 'min', 'max', 'any', 'all')
STATEMENTS = (
    ast.Assign, ast.If, ast.While, ast.For, ast.Return, ast.Break, ast.Continue, ast.Pass, ast.Raise,
    ast.Expr, ast.FunctionDef, ast.ClassDef, ast.ImportFrom, ast.Try, ast.With)
BARRED = (
    'register', 'mro', 'elements', 'open', 'input', 'law', 'version_info', 'with_traceback', 'add_note',
    'eval', 'exec', 'getattr', 'setattr', 'globals', 'locals', 'vars', 'type', 'typing', 'enum', 'dataclass')
SPECIAL = set(
    '__init__ __eq__ __str__ __len__ __call__ __iter__ __add__ __sub__ __and__ __contains__ '
    '__getitem__ __iadd__ __enter__ __exit__'.split())


def nodes(kind):
    for name, tree in TREES.items():
        for node in ast.walk(tree):
            if isinstance(node, kind):
                yield name, node


def with_parents():
    for name, tree in TREES.items():
        for above in ast.walk(tree):
            for node in ast.iter_child_nodes(above):
                yield name, node, above


def called(node):
    """The name that is called, None if the node is no such call."""
    if isinstance(node, ast.Call) and isinstance(node.func, ast.Name):
        return node.func.id
    return None


def bound_names(tree):
    for node in ast.walk(tree):
        if isinstance(node, (ast.FunctionDef, ast.ClassDef)):
            yield node.name
        elif isinstance(node, ast.Name) and isinstance(node.ctx, ast.Store):
            yield node.id
        elif isinstance(node, ast.arg):
            yield node.arg
        elif isinstance(node, ast.alias):
            yield node.asname or node.name


class LanguageTest(unittest.TestCase):
    def test_files(self):
        self.assertLessEqual(len(FILES), 100)
        self.assertIn('__init__', TEXTS)
        for path in FILES:
            self.assertTrue(path.is_file() and re.fullmatch(r'[a-z][a-z0-9_]*|__init__', path.stem), path)
            self.assertEqual(path.suffix, '.py')

    def test_lines_and_characters(self):
        for name, text in TEXTS.items():
            self.assertIsNone(re.search(r'[^ -~\n]', text), name)
            self.assertLessEqual(len(text.splitlines()), 399, name)
            self.assertLessEqual(max(map(len, text.splitlines())), 120, name)

    def test_no_warnings(self):
        with warnings.catch_warnings():
            warnings.simplefilter('error')
            for name, text in TEXTS.items():
                compile(text, name, 'exec')

    def test_functions_are_short(self):
        for name, node in nodes(ast.FunctionDef):
            self.assertLessEqual(node.end_lineno - node.lineno + 1, 40, (name, node.name))

    def test_everything_tells_what_it_is(self):
        for name, node in nodes((ast.Module, ast.ClassDef, ast.FunctionDef)):
            if getattr(node, 'name', '') not in SPECIAL:
                self.assertTrue(ast.get_docstring(node), (name, getattr(node, 'name', '')))

    def test_module_level(self):
        for name, tree in TREES.items():
            for node in tree.body:
                self.assertIsInstance(
                    node, (ast.Expr, ast.ImportFrom, ast.FunctionDef, ast.ClassDef, ast.Assign), name)
                if isinstance(node, ast.Expr):
                    self.assertIs(node, tree.body[0], name)
            told = [node.asname or node.name for part in tree.body if isinstance(part, ast.ImportFrom)
                    for node in part.names]
            told += [part.name for part in tree.body if isinstance(part, (ast.FunctionDef, ast.ClassDef))]
            self.assertEqual(len(told), len(set(told)), name)

    def test_imports(self):
        above = {name: set() for name in TREES}
        for name, node in nodes((ast.Import, ast.ImportFrom)):
            self.assertIsInstance(node, ast.ImportFrom, name)
            self.assertEqual(node.level, 0)
            names = {part.name for part in node.names}
            self.assertEqual({part.asname for part in node.names}, {None})
            if node.module in LIBRARY:
                self.assertLessEqual(names, LIBRARY[node.module], name)
                continue
            package, file = node.module.split('.')
            self.assertEqual(package, 'mendfew')
            own = {part.name for part in TREES[file].body if isinstance(part, (ast.FunctionDef, ast.ClassDef))}
            own |= {part.targets[0].id for part in TREES[file].body if isinstance(part, ast.Assign)}
            self.assertLessEqual(names, own, (name, file))
            above[name].add(file)
        while above:
            free = [name for name in above if not above[name]]
            self.assertTrue(free, ('imports go round', above))
            above = {name: files - set(free) for name, files in above.items() if name not in free}

    def test_imports_are_used(self):
        for name, tree in TREES.items():
            read = {node.id for node in ast.walk(tree) if isinstance(node, ast.Name)}
            told = {part.name for node in tree.body if isinstance(node, ast.ImportFrom) for part in node.names}
            self.assertLessEqual(told, read, name)

    def test_statements(self):
        for name, node in nodes(ast.stmt):
            self.assertIsInstance(node, STATEMENTS, (name, node.lineno))
            if isinstance(node, ast.Expr):
                self.assertIsInstance(node.value, (ast.Call, ast.Yield, ast.Constant), (name, node.lineno))

    def test_expressions(self):
        barred = (ast.Div, ast.GeneratorExp, ast.Lambda, ast.Await, ast.NamedExpr, ast.MatMult)
        for name, node in nodes(ast.AST):
            self.assertNotIsInstance(node, barred, (name, getattr(node, 'lineno', 0)))
        for name, node in nodes(ast.Constant):
            self.assertNotIsInstance(node.value, (float, complex, bytes), name)
            if isinstance(node.value, str):
                self.assertNotIn('%', node.value, name)
        for name, node in nodes(ast.BinOp):
            if isinstance(node.op, ast.Pow):
                self.assertIsInstance(node.right, ast.Constant, (name, node.lineno))

    def test_iterated_at_once(self):
        for name, node, above in with_parents():
            if called(node) in AT_ONCE:
                if isinstance(above, (ast.For, ast.comprehension)):
                    self.assertIs(node, above.iter, (name, node.lineno))
                else:
                    self.assertIn(called(above), TAKERS, (name, node.lineno))
            if called(node) == 'iter':
                self.assertIsInstance(above, ast.Return, (name, node.lineno))

    def test_sets_are_sorted_or_counted_on_the_spot(self):
        for name, node, above in with_parents():
            if isinstance(node, (ast.SetComp, ast.Set)) or called(node) == 'set':
                self.assertIn(called(above), ('sorted', 'len'), (name, node.lineno))
                self.assertEqual(above.keywords, [], (name, node.lineno))

    def test_builtins(self):
        theirs = set(dir(builtins))
        for name, tree in TREES.items():
            for node in ast.walk(tree):
                if isinstance(node, ast.Name) and node.id in theirs:
                    self.assertIn(node.id, BUILTINS, (name, node.lineno))
            top = [node.name for node in tree.body if isinstance(node, ast.ClassDef)]
            methods = {part.name for node in tree.body if isinstance(node, ast.ClassDef)
                       for part in node.body if isinstance(part, ast.FunctionDef)}
            for told in set(bound_names(tree)) - methods - set(top):
                self.assertNotIn(told, theirs, name)

    def test_names(self):
        for name, tree in TREES.items():
            for told in bound_names(tree):
                self.assertNotIn(told, BARRED, name)
                if told not in SPECIAL and told != '_':
                    self.assertRegex(told, r'\A_?[A-Za-z][A-Za-z0-9_]*\Z', name)
            for node in ast.walk(tree):
                if isinstance(node, ast.Name) and node.id == '_':
                    self.assertIsInstance(node.ctx, ast.Store, (name, node.lineno))
                if isinstance(node, ast.Attribute):
                    self.assertNotIn(node.attr, BARRED, name)

    def test_locals_are_no_imports(self):
        for name, tree in TREES.items():
            told = {part.name for node in tree.body if isinstance(node, ast.ImportFrom) for part in node.names}
            told |= {node.name for node in tree.body if isinstance(node, ast.ClassDef)}
            for node in ast.walk(tree):
                if isinstance(node, ast.Name) and isinstance(node.ctx, ast.Store):
                    self.assertNotIn(node.id, told, (name, node.lineno))
                if isinstance(node, ast.arg):
                    self.assertNotIn(node.arg, told, (name, node.lineno))

    def test_handlers_name_errors_of_the_package(self):
        own = {node.name for node in TREES['errors'].body if isinstance(node, ast.ClassDef)}
        for name, node in nodes(ast.Try):
            self.assertEqual(node.finalbody, [], (name, node.lineno))
            for handler in node.handlers:
                self.assertIn(handler.type.id, own, (name, node.lineno))

    def test_the_end_of_a_with_assigns_attributes_alone(self):
        for name, node in nodes(ast.FunctionDef):
            if node.name == '__exit__':
                self.assertEqual([part.arg for part in node.args.args], ['self', 'kind', 'value', 'trace'])
                for part in node.body:
                    self.assertIsInstance(part, ast.Assign, name)
                    for side in (*part.targets, part.value):
                        self.assertIsInstance(side, ast.Attribute, name)

    def test_methods_and_attributes_have_names_of_their_own(self):
        methods, stored = {}, {}
        for name, node in nodes(ast.ClassDef):
            methods[node.name] = {part.name for part in node.body if isinstance(part, ast.FunctionDef)}
            stored[node.name] = {
                part.attr for part in ast.walk(node)
                if isinstance(part, ast.Attribute) and isinstance(part.ctx, ast.Store)}
        builtin = {told for kind in (str, int, list, tuple, dict, set, bytes) for told in dir(kind)}
        for name in methods:
            self.assertEqual(methods[name] & set().union(*stored.values()), set(), name)
            self.assertEqual((methods[name] - SPECIAL) & builtin, set(), name)
            self.assertEqual(stored[name] & (builtin - {'count', 'index', 'title'}), set(), name)

    def test_raises(self):
        for name, node in nodes(ast.Raise):
            self.assertIsInstance(node.exc, ast.Call, name)
            self.assertRegex(node.exc.func.id, r'\A[A-Z]', name)

    def test_barred_words(self):
        for name, text in TEXTS.items():
            self.assertNotIn('_wall', text.lower(), name)
            self.assertIsNone(re.search(r'\(type\)|Meta|metaclass=', text), name)

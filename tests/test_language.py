"""What ../shared/LANGUAGE.md asks for and a program can see at once: sizes, imports, names."""

import ast
import builtins
import os
import re
import unittest

PACKAGE = os.path.join(os.path.dirname(os.path.dirname(os.path.abspath(__file__))), 'thinspans')

BUILTINS = set('''len range enumerate zip min max sum abs sorted reversed int str bool bytes list tuple dict set frozenset
    isinstance ord repr any all divmod iter next map super property staticmethod classmethod object Exception ValueError
    TypeError KeyError IndexError LookupError ZeroDivisionError ArithmeticError OverflowError RuntimeError
    NotImplementedError AttributeError StopIteration NotImplemented print'''.split())
METHODS = set('''append clear copy count endswith extend find get index insert isalnum isalpha isdigit islower isspace
    isupper items join keys ljust lower lstrip partition pop remove replace reverse rfind rjust rpartition rsplit rstrip
    setdefault split splitlines startswith strip update upper values zfill bit_length add discard'''.split())
NEVER = set('''register mro elements open input law version_info type typing enum dataclass overload compile eval exec
    exit id dir vars super globals locals getattr setattr hasattr'''.split())
LIBRARY = {'math': {'gcd', 'lcm', 'isqrt', 'comb', 'perm', 'factorial'},
           'heapq': {'heappush', 'heappop', 'heapify', 'heapreplace', 'heappushpop'},
           'itertools': {'product', 'combinations', 'permutations'}}
OPERATORS = set('''__eq__ __lt__ __le__ __gt__ __ge__ __ne__ __add__ __sub__ __mul__ __floordiv__ __mod__ __pow__ __and__
    __or__ __xor__ __lshift__ __rshift__ __neg__ __pos__ __invert__ __abs__ __bool__ __contains__ __getitem__ __len__
    __str__ __repr__ __iter__'''.split())
DOUBLE = OPERATORS | {'__init__', '__enter__', '__exit__', '__call__', '__setitem__'}
CHANGING = set('append clear extend insert pop remove reverse setdefault update sort add discard'.split())
OF_BUILTINS = {name for kind in (str, int, list, dict, set, bytes) for name in dir(kind)}
FORBIDDEN = (ast.Global, ast.AsyncFunctionDef, ast.Await, ast.Div)


def sources():
    for name in sorted(os.listdir(PACKAGE)):
        if name != '__pycache__':
            with open(os.path.join(PACKAGE, name), encoding='utf-8') as file:
                yield name, file.read()


def classes():
    for name, text in sources():
        for node in ast.walk(ast.parse(text)):
            if isinstance(node, ast.ClassDef):
                yield name, node


def methods(node):
    return [part for part in node.body if isinstance(part, ast.FunctionDef)]


def marked(method):
    """The names of its decorators."""
    return [mark.id if isinstance(mark, ast.Name) else mark.attr for mark in method.decorator_list]


def properties():
    return {method.name for _, node in classes() for method in methods(node) if 'property' in marked(method)}


def own_lists(function):
    """The local variables to which a function assigns nothing but new lists, dicts and sets."""
    found, others = set(), {arg.arg for arg in ast.walk(function) if isinstance(arg, ast.arg)}
    for node in ast.walk(function):
        if isinstance(node, ast.Assign):
            new = isinstance(node.value, (ast.List, ast.ListComp)) or (
                isinstance(node.value, ast.Call) and getattr(node.value.func, 'id', '') in ('list', 'sorted', 'dict', 'set'))
            for target in node.targets:
                (found if new and isinstance(target, ast.Name) else others).update(
                    part.id for part in ast.walk(target) if isinstance(part, ast.Name) and isinstance(part.ctx, ast.Store))
        elif isinstance(node, (ast.For, ast.comprehension)):
            others |= {part.id for part in ast.walk(node.target) if isinstance(part, ast.Name)}
    return found - others


def changes(function):
    """The places where a function changes what it did not create itself."""
    mine = own_lists(function)
    for node in ast.walk(function):
        if isinstance(node, ast.Attribute) and not isinstance(node.ctx, ast.Load):
            yield node
        elif isinstance(node, ast.Subscript) and not isinstance(node.ctx, ast.Load):
            if not (isinstance(node.value, ast.Name) and node.value.id in mine):
                yield node
        elif isinstance(node, ast.Call) and isinstance(node.func, ast.Attribute) and node.func.attr in CHANGING:
            if not (isinstance(node.func.value, ast.Name) and node.func.value.id in mine):
                yield node
        elif isinstance(node, ast.AugAssign) and not (isinstance(node.value, ast.Constant) and isinstance(node.op, (ast.Add, ast.Sub))):
            yield node


def defined(tree):
    """All functions and classes of a module."""
    return [node for node in ast.walk(tree) if isinstance(node, (ast.FunctionDef, ast.ClassDef))]


class Language(unittest.TestCase):

    def test_sizes_and_characters(self):
        for name, text in sources():
            self.assertTrue(re.fullmatch(r'[a-z_]+\.py', name), name)
            self.assertTrue(all(letter == '\n' or ' ' <= letter <= '~' for letter in text), name)
            rows = text.split('\n')
            self.assertLessEqual(len(rows), 399, name)
            self.assertLessEqual(max(map(len, rows)), 120, name)
            for node in defined(ast.parse(text)):
                if isinstance(node, ast.FunctionDef):
                    self.assertLessEqual(node.end_lineno - node.lineno, 39, f'{name}: {node.name}')

    def test_imports(self):
        for name, text in sources():
            for node in ast.walk(ast.parse(text)):
                self.assertNotIsInstance(node, ast.Import, name)
                if isinstance(node, ast.ImportFrom):
                    names = {alias.name for alias in node.names}
                    self.assertTrue(all(alias.asname is None for alias in node.names), name)
                    if node.module in LIBRARY:
                        self.assertLessEqual(names, LIBRARY[node.module], name)
                        continue
                    package, module = node.module.split('.')
                    self.assertEqual(('thinspans', 0), (package, node.level), name)
                    with open(os.path.join(PACKAGE, module + '.py'), encoding='utf-8') as file:
                        body = ast.parse(file.read()).body
                    own = {part.name for part in body if isinstance(part, (ast.FunctionDef, ast.ClassDef))}
                    own |= {part.targets[0].id for part in body if isinstance(part, ast.Assign)}
                    self.assertLessEqual(names, own, f'{name}: names that {module} imports itself')

    def test_imports_are_used(self):
        for name, text in sources():
            tree = ast.parse(text)
            used = {node.id for node in ast.walk(tree) if isinstance(node, ast.Name)}
            for node in ast.walk(tree):
                if isinstance(node, ast.ImportFrom):
                    self.assertLessEqual({alias.name for alias in node.names}, used, name)

    def test_no_two_files_import_each_other(self):
        reach = {name[:-3]: {node.module.split('.')[1] for node in ast.walk(ast.parse(text))
                             if isinstance(node, ast.ImportFrom) and node.module.startswith('thinspans')}
                 for name, text in sources()}
        for _ in reach:
            reach = {name: near.union(*[reach[other] for other in near]) for name, near in reach.items()}
        for name, near in reach.items():
            self.assertNotIn(name, near)

    def test_names(self):
        own = {node.name for _, text in sources() for node in defined(ast.parse(text))}
        for name, text in sources():
            tree = ast.parse(text)
            fixed = {part.name for part in tree.body if isinstance(part, ast.ClassDef)}
            for node in tree.body:
                if isinstance(node, ast.ImportFrom):
                    fixed |= {alias.name for alias in node.names}
            for node in ast.walk(tree):
                bound = []
                if isinstance(node, ast.Name) and isinstance(node.ctx, ast.Store):
                    bound = [node.id]
                elif isinstance(node, ast.arg):
                    bound = [node.arg]
                elif isinstance(node, (ast.FunctionDef, ast.ClassDef)) and node.name != '__init__':
                    bound = [node.name]
                for one in bound:
                    if one in DOUBLE:
                        continue
                    self.assertFalse(hasattr(builtins, one) or one in NEVER, f'{name}: {one}')
                    self.assertTrue(re.fullmatch(r'_|_?[A-Za-z][A-Za-z0-9_]*', one), f'{name}: {one}')
                    if not isinstance(node, ast.ClassDef):
                        self.assertNotIn(one, fixed, name)
                if isinstance(node, ast.Name) and hasattr(builtins, node.id):
                    self.assertIn(node.id, BUILTINS, name)
                if isinstance(node, ast.Call) and isinstance(node.func, ast.Attribute):
                    self.assertIn(node.func.attr, METHODS | own, name)

    def test_statements_and_values(self):
        for name, text in sources():
            for node in ast.walk(ast.parse(text)):
                self.assertNotIsInstance(node, FORBIDDEN, name)
                if isinstance(node, ast.Constant):
                    self.assertNotIsInstance(node.value, float, name)
                    if isinstance(node.value, str):
                        self.assertNotIn('%', node.value, name)
                if isinstance(node, ast.Compare) and isinstance(node.ops[0], (ast.Is, ast.IsNot)):
                    self.assertIsInstance(node.comparators[0], ast.Constant, name)


class Classes(unittest.TestCase):

    def test_methods(self):
        for name, node in classes():
            own = {method.name for method in methods(node)}
            self.assertEqual([], node.decorator_list, name)
            for method in methods(node):
                self.assertLessEqual(set(marked(method)), {'property', 'setter', 'staticmethod', 'classmethod'}, name)
                if method.name.startswith('__'):
                    self.assertIn(method.name, DOUBLE, name)
                else:
                    self.assertNotIn(method.name, OF_BUILTINS - METHODS, name)
            if '__getitem__' in own:
                self.assertIn('__iter__', own, name)
            self.assertEqual(len(own), len([method for method in methods(node) if 'setter' not in marked(method)]), name)

    def test_names_of_properties(self):
        others = {method.name for _, node in classes() for method in methods(node) if 'property' not in marked(method)}
        known = properties()
        self.assertEqual(set(), known & (others | OF_BUILTINS))
        for name, text in sources():
            for node in ast.walk(ast.parse(text)):
                if isinstance(node, ast.Attribute) and isinstance(node.ctx, ast.Store):
                    self.assertNotIn(node.attr, known | others, name)

    def test_attributes_are_assigned(self):
        stored, read = set(), {}
        for name, text in sources():
            for node in ast.walk(ast.parse(text)):
                if isinstance(node, ast.Attribute):
                    if isinstance(node.ctx, ast.Store):
                        stored.add(node.attr)
                    else:
                        read[node.attr] = name
        own = {method.name for _, node in classes() for method in methods(node)}
        values = {part.targets[0].id for _, node in classes() for part in node.body if isinstance(part, ast.Assign)}
        self.assertEqual(set(), set(read) - stored - own - values - METHODS - {'setter'})

    def test_functions_and_operators_change_nothing(self):
        for name, text in sources():
            for node in ast.parse(text).body:
                functions = [node] if isinstance(node, ast.FunctionDef) else []
                if isinstance(node, ast.ClassDef):
                    functions = [method for method in methods(node) if method.name in OPERATORS or 'property' in marked(method)]
                for function in functions:
                    found = [one.lineno for one in changes(function)]
                    self.assertEqual([], found, f'{name}: {function.name}')
                    given = {arg.arg for arg in ast.walk(function) if isinstance(arg, ast.arg)}
                    for one in ast.walk(function):
                        if isinstance(one, ast.Call) and isinstance(one.func, ast.Name):
                            self.assertNotIn(one.func.id, given, f'{name}: {function.name}')

"""The files of the package keep to the plain subset of the language, as far as that can be seen from their trees."""

import ast
import builtins
import os
import re
import unittest

import endsmeet

FOLDER = os.path.dirname(endsmeet.__file__)
LIBRARY = {
    'heapq': {'heappush', 'heappop', 'heapify', 'heapreplace', 'heappushpop'},
    'math': {'gcd', 'lcm', 'isqrt', 'comb', 'perm', 'factorial'},
}
BUILTINS = set(
    'len range enumerate zip min max sum abs sorted reversed int str bool list tuple dict set isinstance ord repr '
    'any all divmod iter ValueError super'.split()
)
METHODS = set(
    'append clear copy count endswith extend find get index insert isalnum isalpha isdigit islower isspace isupper '
    'items join keys ljust lower lstrip partition pop remove replace reverse rfind rjust rpartition rsplit rstrip '
    'setdefault split splitlines startswith strip update upper values zfill bit_length'.split()
)
DOUBLE = {'__init__', '__bool__', '__eq__', '__len__', '__iter__', '__contains__'}
STATEMENTS = (
    ast.FunctionDef, ast.ClassDef, ast.Return, ast.Assign, ast.AugAssign, ast.For, ast.While, ast.If, ast.Raise,
    ast.Expr, ast.Pass, ast.Break, ast.Continue, ast.ImportFrom, ast.Delete, ast.Try,
)
WORDS = re.compile(
    r'\b(type|typing|enum|Enum|Flag|Generic|Protocol|ABC|namedtuple|NamedTuple|register|mro|elements|open|input|law)\b'
)
MODIFIERS = {'append', 'clear', 'extend', 'insert', 'pop', 'remove', 'reverse', 'setdefault', 'update', 'add', 'discard'}
HEAPS = {'heappush', 'heappop', 'heapify', 'heapreplace', 'heappushpop'}
AT_ONCE = {'zip', 'enumerate', 'reversed', 'range', 'items', 'keys', 'values', 'map'}


def sources():
    for name in sorted(os.listdir(FOLDER)):
        if name != '__pycache__':
            with open(os.path.join(FOLDER, name), encoding='utf-8') as file:
                yield name, file.read()


def trees():
    for name, told in sources():
        tree = ast.parse(told)
        for node in ast.walk(tree):
            for child in ast.iter_child_nodes(node):
                child.parent = node
        yield name, tree


def bound_names(tree):
    """All names that are bound in a file, but for attributes and methods."""
    for node in ast.walk(tree):
        if isinstance(node, ast.Name) and isinstance(node.ctx, ast.Store):
            yield node.id
        elif isinstance(node, ast.arg):
            yield node.arg
        elif isinstance(node, (ast.FunctionDef, ast.ClassDef)) and not isinstance(node.parent, ast.ClassDef):
            yield node.name


def is_iterated_at_once(node):
    """Whether what a call gives is iterated on the spot."""
    parent = node.parent
    if isinstance(parent, (ast.For, ast.comprehension)):
        return parent.iter is node
    if isinstance(parent, ast.Call) and isinstance(parent.func, ast.Name):
        return parent.func.id in ('list', 'tuple', 'dict', 'sorted', 'sum', 'any', 'all', 'enumerate', 'zip')
    # A range may be kept in a variable.
    return isinstance(parent, ast.Assign) and isinstance(node.func, ast.Name) and node.func.id == 'range'


def places(node):
    """The names and attributes of which a value may be one, as they are written."""
    if isinstance(node, (ast.Name, ast.Attribute)):
        return [ast.unparse(node)]
    if isinstance(node, ast.IfExp):
        return places(node.body) + places(node.orelse)
    if isinstance(node, ast.BoolOp):
        return [place for part in node.values for place in places(part)]
    return []


def walked(node):
    """The names and attributes that a loop goes over."""
    if isinstance(node, ast.Call):
        if isinstance(node.func, ast.Name) and node.func.id in AT_ONCE:
            return [place for part in node.args for place in walked(part)]
        if isinstance(node.func, ast.Attribute) and node.func.attr in AT_ONCE:
            return places(node.func.value)
    return places(node)


def changed(node):
    """The names and attributes of what a node of a tree changes."""
    if isinstance(node, ast.Subscript) and isinstance(node.ctx, (ast.Store, ast.Del)):
        return places(node.value)
    if isinstance(node, ast.AugAssign):
        return places(node.target)
    if isinstance(node, ast.Call):
        if isinstance(node.func, ast.Attribute) and node.func.attr in MODIFIERS:
            return places(node.func.value)
        if isinstance(node.func, ast.Name) and node.func.id in HEAPS:
            return places(node.args[0])
    return []


def alike(function):
    """For each name and attribute of a function the others that may be the same list, by plain assignments."""
    group = {}
    for node in ast.walk(function):
        if isinstance(node, ast.Assign):
            told = [place for part in node.targets + [node.value] for place in places(part)]
            whole = {place for one in told for place in group.get(one, {one})}
            group.update({place: whole for place in whole})
    return group


def changed_loops(tree):
    """The rows of a file where a loop changes what it goes over, perhaps by another name."""
    for function in ast.walk(tree):
        if isinstance(function, ast.FunctionDef):
            group = alike(function)
            for loop in ast.walk(function):
                if isinstance(loop, ast.For):
                    over = {place for one in walked(loop.iter) for place in group.get(one, {one})}
                    for row in loop.body:
                        for node in ast.walk(row):
                            if over.intersection(changed(node)):
                                yield node.lineno


class Language(unittest.TestCase):
    def test_files(self):
        names = [name for name, _ in sources()]
        self.assertLessEqual(len(names), 100)
        for name, told in sources():
            self.assertRegex(name, r'^[a-z_]+\.py$')
            lines = told.split('\n')
            self.assertLessEqual(len(lines), 400, name)
            for number, line in enumerate(lines, 1):
                self.assertLessEqual(len(line), 120, (name, number))
                self.assertTrue(all(' ' <= sign <= '~' for sign in line), (name, number))

    def test_functions_are_small(self):
        for name, tree in trees():
            for node in ast.walk(tree):
                if isinstance(node, ast.FunctionDef):
                    self.assertLessEqual(node.end_lineno - node.lineno + 1, 40, (name, node.name))
                    self.assertEqual(node.decorator_list, [], (name, node.name))

    def test_imports(self):
        uses = {}
        for name, tree in trees():
            uses[name[:-3]] = []
            for node in ast.walk(tree):
                self.assertNotIsInstance(node, ast.Import, name)
                if not isinstance(node, ast.ImportFrom):
                    continue
                self.assertIsInstance(node.parent, ast.Module)
                self.assertFalse([alias for alias in node.names if alias.asname], name)
                if node.module in LIBRARY:
                    self.assertLessEqual({alias.name for alias in node.names}, LIBRARY[node.module], name)
                    continue
                self.assertTrue(node.module.startswith('endsmeet.'), (name, node.module))
                uses[name[:-3]].append(node.module[9:])
        while uses:
            free = [name for name in uses if not any(other in uses for other in uses[name])]
            self.assertTrue(free, f'these import from each other: {sorted(uses)}')
            for name in free:
                del uses[name]

    def test_imported_names_are_defined_there(self):
        defined = {}
        for name, tree in trees():
            defined[name[:-3]] = {
                node.name if hasattr(node, 'name') else node.targets[0].id for node in tree.body
                if isinstance(node, (ast.FunctionDef, ast.ClassDef, ast.Assign))
            }
        for name, tree in trees():
            for node in tree.body:
                if isinstance(node, ast.ImportFrom) and node.module.startswith('endsmeet.'):
                    for alias in node.names:
                        self.assertIn(alias.name, defined[node.module[9:]], name)

    def test_imported_names_are_used(self):
        for name, tree in trees():
            used = {node.id for node in ast.walk(tree) if isinstance(node, ast.Name)}
            for node in tree.body:
                if isinstance(node, ast.ImportFrom):
                    for alias in node.names:
                        self.assertIn(alias.name, used, name)

    def test_module_level(self):
        for name, tree in trees():
            found = []
            for node in tree.body:
                self.assertIsInstance(node, (ast.Expr, ast.ImportFrom, ast.FunctionDef, ast.ClassDef, ast.Assign))
                if isinstance(node, ast.Assign):
                    ast.literal_eval(node.value)
                    found.append(node.targets[0].id)
                elif isinstance(node, ast.ImportFrom):
                    found.extend(alias.name for alias in node.names)
                elif not isinstance(node, ast.Expr):
                    found.append(node.name)
            self.assertEqual(len(found), len(set(found)), name)

    def test_statements_and_expressions(self):
        for name, tree in trees():
            for node in ast.walk(tree):
                at = (name, getattr(node, 'lineno', 0))
                if isinstance(node, ast.stmt):
                    self.assertIsInstance(node, STATEMENTS, at)
                self.assertNotIsInstance(node, (
                    ast.GeneratorExp, ast.Yield, ast.YieldFrom, ast.Await, ast.Starred, ast.Div, ast.Global,
                    ast.NamedExpr, ast.Set, ast.SetComp,
                ), at)
                if isinstance(node, ast.Constant):
                    self.assertNotIsInstance(node.value, (float, complex, bytes), at)
                    if isinstance(node.value, str):
                        self.assertNotIn('%', node.value, at)
                if isinstance(node, ast.BinOp) and isinstance(node.op, ast.Pow):
                    self.assertIsInstance(node.right, ast.Constant, at)
                if isinstance(node, ast.Compare):
                    for sign, right in zip(node.ops, node.comparators):
                        if isinstance(sign, (ast.Is, ast.IsNot)):
                            self.assertIsInstance(right, ast.Constant, at)

    def test_tries_only_put_things_back(self):
        for name, tree in trees():
            for node in ast.walk(tree):
                if isinstance(node, ast.Try):
                    self.assertFalse(node.handlers or node.orelse, name)
                    for row in node.finalbody:
                        self.assertIsInstance(row, ast.Assign, name)
                        self.assertIsInstance(row.value, (ast.Name, ast.Attribute), name)

    def test_names_of_methods_are_not_those_of_attributes(self):
        methods, attributes = set(), set()
        for _, tree in trees():
            for node in ast.walk(tree):
                if isinstance(node, ast.FunctionDef) and isinstance(node.parent, ast.ClassDef):
                    methods.add(node.name)
                if isinstance(node, ast.Attribute) and isinstance(node.ctx, ast.Store):
                    attributes.add(node.attr)
        self.assertEqual(methods & attributes, set())

    def test_classes(self):
        for name, tree in trees():
            for node in ast.walk(tree):
                if isinstance(node, ast.ClassDef):
                    self.assertRegex(node.name, r'^[A-Z]')
                    self.assertIsInstance(node.parent, ast.Module)
                    methods = [row.name for row in node.body if isinstance(row, ast.FunctionDef)]
                    self.assertEqual(len(methods), len(set(methods)))
                    for method in methods:
                        self.assertTrue(not method.startswith('__') or method in DOUBLE, (name, method))

    def test_names(self):
        for name, tree in trees():
            taken = {node.name for node in tree.body if isinstance(node, ast.ClassDef)}
            for node in tree.body:
                if isinstance(node, ast.ImportFrom):
                    taken.update(alias.name for alias in node.names)
            functions = {node.name for node in tree.body if isinstance(node, ast.FunctionDef)}
            for bound in bound_names(tree):
                self.assertTrue(bound == '_' or not hasattr(builtins, bound), (name, bound))
                self.assertFalse(bound.startswith('__'), (name, bound))
                self.assertTrue(bound not in taken or bound in {
                    node.name for node in tree.body if isinstance(node, ast.ClassDef)}, (name, bound))
            for node in ast.walk(tree):
                if isinstance(node, (ast.arg, ast.Name)):
                    told = node.arg if isinstance(node, ast.arg) else node.id
                    if isinstance(node, ast.arg) or isinstance(node.ctx, ast.Store):
                        self.assertNotIn(told, functions | taken, (name, told))

    def test_builtins_and_methods(self):
        own = set()
        for _, tree in trees():
            own.update(
                node.name for node in ast.walk(tree)
                if isinstance(node, ast.FunctionDef) and isinstance(node.parent, ast.ClassDef)
            )
        for name, tree in trees():
            bound = set(bound_names(tree)) | {
                alias.name for node in tree.body if isinstance(node, ast.ImportFrom) for alias in node.names
            }
            for node in ast.walk(tree):
                if isinstance(node, ast.Name) and isinstance(node.ctx, ast.Load) and node.id not in bound:
                    self.assertIn(node.id, BUILTINS, (name, node.lineno))
                if isinstance(node, ast.Call) and isinstance(node.func, ast.Attribute):
                    self.assertIn(node.func.attr, METHODS | own, (name, node.lineno))

    def test_iterated_at_once(self):
        for name, tree in trees():
            for node in ast.walk(tree):
                if isinstance(node, ast.Call):
                    called = getattr(node.func, 'id', getattr(node.func, 'attr', None))
                    if called in AT_ONCE:
                        self.assertTrue(is_iterated_at_once(node), (name, node.lineno, called))

    def test_sets_are_not_kept(self):
        for name, tree in trees():
            for node in ast.walk(tree):
                if isinstance(node, ast.Call) and getattr(node.func, 'id', None) in ('set', 'frozenset'):
                    self.assertIn(getattr(getattr(node.parent, 'func', None), 'id', None), ('sorted', 'len'), name)

    def test_loops_do_not_change_what_they_go_over(self):
        for name, tree in trees():
            self.assertEqual(list(changed_loops(tree)), [], name)

    def test_loops_that_do_are_found(self):
        for told in (
            'for at in left:\n        left.append(at)',
            'for at in left:\n        best.append(at)\n    left = best',
            'best = left if left else []\n    for at in enumerate(left):\n        best[0] = at',
            'self.rows = left\n    for at in self.rows:\n        heappush(left, at)',
        ):
            self.assertEqual(len(list(changed_loops(ast.parse(f'def told(self, left, best):\n    {told}')))), 1, told)
        kept = 'def told(left):\n    for at in list(left):\n        left.append(at)'
        self.assertEqual(list(changed_loops(ast.parse(kept))), [])

    def test_words(self):
        for name, tree in trees():
            for node in ast.walk(tree):
                for told in (
                    getattr(node, 'id', ''), getattr(node, 'attr', ''), getattr(node, 'arg', '') or '',
                    node.name if isinstance(node, (ast.FunctionDef, ast.ClassDef)) else '',
                ):
                    self.assertIsNone(WORDS.search(told), (name, told))
                if isinstance(node, ast.Constant) and isinstance(node.value, str):
                    if not isinstance(node.parent, ast.Expr):
                        self.assertIsNone(WORDS.search(node.value), (name, node.value))

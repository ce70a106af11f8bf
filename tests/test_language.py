"""The rules of LANGUAGE.md that can be told from the code alone; some of them are checked more narrowly here."""

import ast
import builtins
import pathlib
import re
import unittest

FOLDER = pathlib.Path(__file__).resolve().parent.parent / 'alwaysnew'
FILES = sorted(FOLDER.rglob('*'))
SOURCES = {path.stem: path.read_text(encoding='utf-8') for path in FILES if path.suffix == '.py'}
TREES = {name: ast.parse(source) for name, source in SOURCES.items()}

USABLE = set('''len range enumerate zip min max sum abs sorted reversed int str bool list tuple dict set isinstance ord
    repr any all divmod ValueError TypeError NotImplemented property staticmethod classmethod super'''.split())
METHODS = set('''append clear copy count endswith extend find get index insert isalnum isalpha isdigit islower isspace
    isupper items join keys ljust lower lstrip partition pop remove replace reverse rfind rjust rpartition rsplit rstrip
    setdefault split splitlines startswith strip update upper values zfill bit_length'''.split())
UNUSED_NAMES = set('''register mro elements open input law version_info with_traceback add_note attrgetter breakpoint
    builtins compile copyright credits delattr dir eval exec exit gc getattr globals hasattr help id importlib license
    locals methodcaller os quit setattr type vars sys'''.split())
BARRED = re.compile(r'''\b(type|typing|typing_extensions|enum|Enum|IntEnum|StrEnum|Flag|IntFlag|Generic|Protocol|ABC
    |ABCMeta|namedtuple|NamedTuple|TypedDict|TYPE_CHECKING|abstractmethod|_wall|_WallAttr)\b|dataclass|overload
    |contextmanager|Meta|metaclass=''', re.VERBOSE)
SPECIAL = set('''__init__ __eq__ __len__ __str__ __call__ __iter__ __or__ __and__ __contains__ __getitem__'''.split())
STATEMENTS = (ast.Assign, ast.AugAssign, ast.If, ast.While, ast.For, ast.Return, ast.Break, ast.Continue, ast.Pass,
              ast.Raise, ast.Expr, ast.FunctionDef, ast.ClassDef, ast.ImportFrom, ast.Try)
# Not used at all, although LANGUAGE.md allows some of them in places.
NEVER = (ast.GeneratorExp, ast.SetComp, ast.Set, ast.Lambda, ast.NamedExpr, ast.Div, ast.MatMult, ast.AnnAssign,
         ast.Await, ast.Global, ast.Nonlocal, ast.Match, ast.With, ast.Delete, ast.Assert, ast.Import)


def nodes(kind):
    """Yield the file and the node for each node of a kind in the package."""
    for name, tree in TREES.items():
        for node in ast.walk(tree):
            if isinstance(node, kind):
                yield name, node


def docstrings():
    """Return the nodes of all docstrings."""
    found = []
    for _, node in nodes((ast.Module, ast.ClassDef, ast.FunctionDef)):
        if node.body and isinstance(node.body[0], ast.Expr) and isinstance(node.body[0].value, ast.Constant):
            found.append(node.body[0].value)
    return found


def bound_names(function):
    """Return the parameters and local variables of a function."""
    arguments = function.args
    names = [one.arg for one in arguments.posonlyargs + arguments.args + arguments.kwonlyargs]
    names += [one.arg for one in (arguments.vararg, arguments.kwarg) if one]
    return names + [node.id for node in ast.walk(function) if isinstance(node, ast.Name)
                    and isinstance(node.ctx, ast.Store)]


class LanguageTest(unittest.TestCase):
    def test_files(self):
        for path in FILES:
            if '__pycache__' not in path.parts:
                self.assertTrue(path.suffix == '.py' and path.parent == FOLDER, path)
                self.assertRegex(path.name, r'^[a-z][a-z0-9_]*\.py$|^__init__\.py$')
        self.assertIn('__init__', SOURCES)
        self.assertLessEqual(len(SOURCES), 100)

    def test_size_and_characters(self):
        for name, source in SOURCES.items():
            lines = source.split('\n')
            self.assertLess(len(lines), 401, name)
            self.assertLessEqual(max(map(len, lines)), 120, name)
            self.assertRegex(source, r'^[\n -~]*$', name)
            self.assertNotRegex(source, r'\\[^nt\\"\']', name)
        for name, node in nodes(ast.FunctionDef):
            self.assertLessEqual(node.end_lineno - node.lineno + 1, 40, (name, node.name))

    def test_imports(self):
        for name, node in nodes(ast.ImportFrom):
            self.assertEqual((node.level, node.module.split('.')[0]), (0, 'alwaysnew'), name)
            source = TREES[node.module.split('.')[1]]
            defined = [one.name for one in source.body if isinstance(one, (ast.FunctionDef, ast.ClassDef))]
            for alias in node.names:
                self.assertIn(alias.name, defined, name)
                self.assertIsNone(alias.asname)

    def test_imports_are_used_and_go_in_no_ring(self):
        needs = {name: [] for name in SOURCES}
        for name, node in nodes(ast.ImportFrom):
            needs[name].append(node.module.split('.')[1])
            for alias in node.names:
                used = [one for one in ast.walk(TREES[name]) if isinstance(one, ast.Name) and one.id == alias.name]
                self.assertTrue(used, (name, alias.name))
        while needs:
            free = [name for name in needs if not set(needs[name]) & set(needs)]
            self.assertTrue(free, sorted(needs))
            needs = {name: needs[name] for name in needs if name not in free}

    def test_module_level(self):
        for name, tree in TREES.items():
            for at, node in enumerate(tree.body):
                allowed = isinstance(node, (ast.ImportFrom, ast.FunctionDef, ast.ClassDef, ast.Assign))
                is_docstring = at == 0 and isinstance(node, ast.Expr)
                self.assertTrue(allowed or is_docstring, (name, ast.dump(node)[:80]))
            self.assertIsNotNone(ast.get_docstring(tree), name)

    def test_each_function_has_a_docstring_or_is_private(self):
        for name, node in nodes((ast.FunctionDef, ast.ClassDef)):
            if not node.name.startswith('_'):
                self.assertIsNotNone(ast.get_docstring(node), (name, node.name))

    def test_statements_and_expressions(self):
        for name, node in nodes(ast.stmt):
            self.assertIsInstance(node, STATEMENTS, (name, node.lineno))
        for name, node in nodes(NEVER):
            self.fail((name, ast.dump(node)[:80]))
        for name, node in nodes(ast.Constant):
            self.assertNotIsInstance(node.value, (float, complex, bytes), name)
        for name, node in nodes(ast.FunctionDef):
            parts = [node.returns, *[one.annotation for one in node.args.args + node.args.kwonlyargs]]
            self.assertEqual([part for part in parts if part], [], (name, node.name))

    def test_strings(self):
        documented = docstrings()
        for name, node in nodes(ast.Constant):
            if isinstance(node.value, str):
                self.assertNotIn('%', node.value, (name, node.lineno))
                if node not in documented:
                    self.assertNotRegex(node.value, BARRED, (name, node.lineno))

    def test_sums_in_place_are_of_literal_integers(self):
        for name, node in nodes(ast.AugAssign):
            self.assertIsInstance(node.value, ast.Constant, (name, node.lineno))
            self.assertIsInstance(node.target, (ast.Name, ast.Attribute), (name, node.lineno))

    def test_builtins_and_calls(self):
        known = set(dir(builtins))
        defined = {node.name for _, node in nodes((ast.FunctionDef, ast.ClassDef))}
        for name, node in nodes(ast.Name):
            if node.id in known:
                self.assertIn(node.id, USABLE, (name, node.lineno))
        for name, node in nodes(ast.Call):
            if isinstance(node.func, ast.Attribute):
                self.assertIn(node.func.attr, METHODS | defined | {'__init__'}, (name, node.lineno))
            else:
                self.assertIsInstance(node.func, ast.Name, (name, node.lineno))
                # An answer is a function out of a table.
                self.assertIn(node.func.id, USABLE | defined | {'cls', 'answer'}, (name, node.lineno))

    def test_sets_stand_in_sorted_and_len_only(self):
        inside = [id(argument) for _, node in nodes(ast.Call) if isinstance(node.func, ast.Name)
                  and node.func.id in ('sorted', 'len') for argument in node.args]
        for name, node in nodes(ast.Call):
            if isinstance(node.func, ast.Name) and node.func.id == 'set':
                self.assertIn(id(node), inside, (name, node.lineno))

    def test_names(self):
        for name, node in nodes((ast.FunctionDef, ast.ClassDef)):
            if node.name not in SPECIAL:
                self.assertRegex(node.name, r'^_?[A-Za-z][A-Za-z0-9_]*$', name)
                self.assertNotIn(node.name, dir(builtins) + sorted(UNUSED_NAMES), name)
        for name, tree in TREES.items():
            barred = set(dir(builtins)) | UNUSED_NAMES
            for node in ast.walk(tree):
                if isinstance(node, ast.ImportFrom):
                    barred |= {alias.name for alias in node.names}
                if isinstance(node, ast.ClassDef):
                    barred.add(node.name)
            for node in ast.walk(tree):
                if isinstance(node, ast.FunctionDef):
                    self.assertEqual([one for one in bound_names(node) if one in barred], [], (name, node.name))

    def test_names_are_bound_once_in_a_file(self):
        for name, tree in TREES.items():
            bound = []
            for node in tree.body:
                if isinstance(node, ast.ImportFrom):
                    bound += [alias.name for alias in node.names]
                elif isinstance(node, ast.Assign):
                    bound += [target.id for target in node.targets]
                elif not isinstance(node, ast.Expr):
                    bound.append(node.name)
            self.assertEqual(len(bound), len(set(bound)), name)

    def test_raise_makes_an_own_error_or_a_plain_one(self):
        for name, node in nodes(ast.Raise):
            self.assertIsInstance(node.exc, ast.Call, (name, node.lineno))
            self.assertIsInstance(node.exc.func, ast.Name, (name, node.lineno))

    def test_generators_have_names_of_their_own(self):
        made = [node.name for _, node in nodes(ast.FunctionDef)]
        for name, node in nodes(ast.FunctionDef):
            if any(isinstance(one, (ast.Yield, ast.YieldFrom)) for one in ast.walk(node)):
                self.assertEqual(made.count(node.name), 1, name)
                used = [one for _, one in nodes(ast.Name) if one.id == node.name]
                self.assertEqual(used, [], (name, node.name))

    def test_no_comprehension_within_another_scope_has_a_variable_from_around_it(self):
        scopes = (ast.ListComp, ast.DictComp, ast.FunctionDef)

        def stored(node):
            names = set()
            for child in ast.iter_child_nodes(node):
                if isinstance(child, ast.Name) and isinstance(child.ctx, ast.Store):
                    names.add(child.id)
                if not isinstance(child, scopes):
                    names |= stored(child)
            return names

        def check(name, node, around):
            within = around
            if isinstance(node, scopes):
                own = stored(node)
                if isinstance(node, ast.FunctionDef):
                    own |= {one.arg for one in node.args.args + node.args.kwonlyargs}
                else:
                    self.assertFalse(own & set().union(*around[:-1]), (name, node.lineno))
                within = [*around, own]
            for child in ast.iter_child_nodes(node):
                check(name, child, within)

        for name, tree in TREES.items():
            check(name, tree, [])

    def test_operators_and_properties_change_nothing(self):
        defined = {}
        for _, node in nodes(ast.FunctionDef):
            defined.setdefault(node.name, []).append(node)
        signs = SPECIAL - {'__init__', '__call__', '__iter__'}
        left = [node for _, node in nodes(ast.FunctionDef) if node.name in signs
                or any(isinstance(one, ast.Name) and one.id == 'property' for one in node.decorator_list)]
        seen = []
        while left:
            node = left.pop()
            if node in seen:
                continue
            seen.append(node)
            parameters = [one.arg for one in node.args.args + node.args.kwonlyargs]
            plain = [one.targets[0].id for one in ast.walk(node) if isinstance(one, ast.Assign)
                     and isinstance(one.targets[0], ast.Name)
                     and isinstance(one.value, (ast.List, ast.ListComp, ast.Dict, ast.Call))]
            for one in ast.walk(node):
                if isinstance(one, ast.Attribute):
                    self.assertIsInstance(one.ctx, ast.Load, (node.name, one.lineno))
                if isinstance(one, ast.Subscript) and not isinstance(one.ctx, ast.Load):
                    self.assertIn(one.value.id, plain, (node.name, one.lineno))
                if not isinstance(one, ast.Call):
                    continue
                if isinstance(one.func, ast.Name):
                    self.assertNotIn(one.func.id, parameters, node.name)
                    left += defined.get(one.func.id, [])
                elif one.func.attr in ('append', 'extend', 'pop', 'insert', 'remove', 'clear', 'update', 'setdefault'):
                    self.assertIn(one.func.value.id, plain, (node.name, one.lineno))
                elif one.func.attr != '__init__':
                    left += defined.get(one.func.attr, [])
        self.assertGreater(len(seen), 40)

    def test_a_class_with_items_refuses_to_be_iterated_over(self):
        for name, node in nodes(ast.ClassDef):
            methods = {one.name: one for one in node.body if isinstance(one, ast.FunctionDef)}
            if '__getitem__' in methods:
                self.assertIsInstance(methods['__iter__'].body[0], ast.Raise, name)

    def test_loops_do_not_change_what_they_go_over(self):
        for name, node in nodes(ast.For):
            over = {one.id for one in ast.walk(node.iter) if isinstance(one, ast.Name)}
            for one in ast.walk(node):
                if isinstance(one, ast.Call) and isinstance(one.func, ast.Attribute) and one.func.attr in (
                        'append', 'pop', 'insert', 'extend', 'remove', 'clear', 'update', 'setdefault'):
                    changed = one.func.value
                    is_gone_over = isinstance(changed, ast.Name) and changed.id in over
                    self.assertFalse(is_gone_over, (name, one.lineno))


if __name__ == '__main__':
    unittest.main()

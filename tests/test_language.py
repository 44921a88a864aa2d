"""The rules for the package's files, as far as the syntax trees show them; stricter where that is simpler."""

import ast
import builtins
import functools
import re
import unittest
from pathlib import Path

PACKAGE = Path(__file__).parent.parent / "soughtrows"
LIBRARY = {"math": {"gcd", "lcm", "isqrt", "comb", "perm", "factorial"},
           "itertools": {"product", "combinations", "permutations"},
           "heapq": {"heappush", "heappop", "heapify", "heapreplace", "heappushpop"}}
BUILTINS = set("""len range enumerate zip min max sum abs sorted reversed int str bool list tuple dict set
    isinstance ord repr any all divmod""".split())
ERRORS = set("""Exception ValueError TypeError KeyError IndexError LookupError ZeroDivisionError ArithmeticError
    OverflowError RuntimeError NotImplementedError""".split())
METHODS = set("""append clear copy count endswith extend find get index insert isalnum isalpha isdigit islower isspace
    isupper items join keys ljust lower lstrip partition pop remove replace reverse rfind rjust rpartition rsplit
    rstrip setdefault split splitlines startswith strip update upper values zfill bit_length isascii
    isdecimal""".split())
DOUBLE = set("""__init__ __eq__ __repr__ __str__ __len__ __enter__ __exit__ __call__ __iter__ __lt__ __le__ __gt__
    __ge__ __ne__ __add__ __sub__ __mul__ __radd__ __rsub__ __rmul__ __neg__ __contains__ __getitem__""".split())
BARRED = set("""register mro elements open input law version_info with_traceback add_note attrgetter breakpoint builtins
    compile copyright credits delattr dir eval exec exit gc getattr globals hasattr help id importlib license locals
    methodcaller os quit setattr vars sys type typing enum""".split())
NO_NODES = (ast.GeneratorExp, ast.Global, ast.AsyncFunctionDef, ast.Await, ast.Yield, ast.YieldFrom, ast.Set,
            ast.Div, ast.Pow, ast.NamedExpr, ast.Match)
BUILTIN_OWN = set(dir(str) + dir(int) + dir(list) + dir(dict) + dir(set) + dir(bytes))


@functools.cache
def trees():
    return {path.stem: ast.parse(path.read_text(encoding="ascii")) for path in sorted(PACKAGE.glob("*.py"))}


@functools.cache
def nodes(kind):
    return [(name, node) for name, tree in trees().items() for node in ast.walk(tree) if isinstance(node, kind)]


def functions():
    return nodes(ast.FunctionDef)


def top_names(tree):
    """All names that a module binds, its imports included."""
    found = []
    for node in tree.body:
        if isinstance(node, ast.ImportFrom):
            found.extend(alias.name for alias in node.names)
        elif isinstance(node, (ast.FunctionDef, ast.ClassDef)):
            found.append(node.name)
        elif isinstance(node, ast.Assign):
            found.extend(target.id for target in node.targets)
    return found


def imported(tree):
    return [alias.name for node in tree.body if isinstance(node, ast.ImportFrom) for alias in node.names]


def defined(tree):
    return [name for name in top_names(tree) if name not in imported(tree)]


def local_names(function):
    """All names that a function binds: its parameters, and what it assigns."""
    inside = list(ast.walk(function))
    stored = [node.id for node in inside if isinstance(node, ast.Name) and isinstance(node.ctx, ast.Store)]
    return [node.arg for node in inside if isinstance(node, ast.arg)] + stored


def enclosing(name, inner):
    """The function of the file in which the node stands."""
    return [node for told, node in functions() if told == name and inner in ast.walk(node)][-1]


def own_methods():
    return {node.name for _, made in nodes(ast.ClassDef) for node in made.body if isinstance(node, ast.FunctionDef)}


class Files(unittest.TestCase):
    def test_names(self):
        for path in PACKAGE.iterdir():
            if path.name != "__pycache__":
                self.assertRegex(path.name, r"^(__init__|[a-z][a-z0-9_]*)\.py$")
        self.assertLessEqual(len(list(PACKAGE.glob("*.py"))), 100)

    def test_characters_and_sizes(self):
        for path in PACKAGE.glob("*.py"):
            text = path.read_text(encoding="ascii")
            self.assertTrue(all(sign == "\n" or " " <= sign <= "~" for sign in text), path.name)
            self.assertLessEqual(len(text.splitlines()), 399, path.name)
            self.assertLessEqual(max(len(line) for line in text.splitlines()), 120, path.name)

    def test_function_sizes(self):
        for name, node in functions():
            self.assertLessEqual(node.end_lineno - node.lineno + 1, 40, (name, node.name))


class Modules(unittest.TestCase):
    def test_imports(self):
        found = trees()
        for name, tree in found.items():
            for node in ast.walk(tree):
                self.assertNotIsInstance(node, ast.Import)
                if not isinstance(node, ast.ImportFrom):
                    continue
                self.assertIn(node, tree.body)
                self.assertTrue(all(alias.asname is None for alias in node.names))
                if node.module in LIBRARY:
                    self.assertLessEqual({alias.name for alias in node.names}, LIBRARY[node.module])
                else:
                    package, _, module = node.module.partition(".")
                    self.assertEqual((package, node.level), ("soughtrows", 0))
                    self.assertLessEqual({alias.name for alias in node.names}, set(defined(found[module])), name)

    def test_no_circles(self):
        needs = {name: {node.module.partition(".")[2] for node in tree.body
                        if isinstance(node, ast.ImportFrom) and node.module not in LIBRARY}
                 for name, tree in trees().items()}
        while needs:
            free = [name for name in needs if not needs[name] & set(needs)]
            self.assertTrue(free, needs)
            needs = {name: needs[name] for name in needs if name not in free}

    def test_module_level(self):
        for name, tree in trees().items():
            for at, node in enumerate(tree.body):
                is_docstring = at == 0 and isinstance(node, ast.Expr) and isinstance(node.value, ast.Constant)
                plain = (ast.Constant, ast.Tuple, ast.Dict)
                is_constant = isinstance(node, ast.Assign) and isinstance(node.value, plain)
                is_made = isinstance(node, (ast.ImportFrom, ast.FunctionDef, ast.ClassDef))
                self.assertTrue(is_docstring or is_constant or is_made, (name, ast.dump(node)[:80]))

    def test_bound_once(self):
        for name, tree in trees().items():
            bound = top_names(tree)
            self.assertEqual(len(bound), len(set(bound)), name)
            taken = [one for one in bound if one in vars(builtins) or one in BARRED]
            self.assertEqual(taken, [], name)

    def test_imports_are_used(self):
        for name, tree in trees().items():
            used = {node.id for node in ast.walk(tree) if isinstance(node, ast.Name)}
            for node in tree.body:
                if isinstance(node, ast.ImportFrom):
                    self.assertLessEqual({alias.name for alias in node.names}, used, name)


class Classes(unittest.TestCase):
    def test_bodies(self):
        for name, made in nodes(ast.ClassDef):
            self.assertEqual((made.decorator_list, made.keywords), ([], []))
            for at, node in enumerate(made.body):
                is_docstring = at == 0 and isinstance(node, ast.Expr) and isinstance(node.value, ast.Constant)
                self.assertTrue(is_docstring or isinstance(node, ast.FunctionDef), (name, made.name))
            named = [node.name for node in made.body if isinstance(node, ast.FunctionDef)]
            self.assertEqual(len(named), len(set(named)), made.name)

    def test_methods(self):
        for one in own_methods():
            if one.startswith("__"):
                self.assertIn(one, DOUBLE)
            else:
                self.assertNotIn(one, (BUILTIN_OWN - METHODS) | BUILTINS | ERRORS | BARRED)

    def test_decorators(self):
        for name, node in functions():
            told = [ast.unparse(one) for one in node.decorator_list]
            self.assertIn(told, [[], ["property"], ["classmethod"], ["staticmethod"]], (name, node.name))

    def test_attributes(self):
        assigned = {node.attr for _, node in nodes(ast.Attribute) if isinstance(node.ctx, ast.Store)}
        for name, node in nodes(ast.Attribute):
            self.assertIn(node.attr, assigned | own_methods() | METHODS, (name, node.lineno))
        self.assertEqual(assigned & own_methods(), set())
        self.assertEqual(assigned & BUILTIN_OWN, set())


class Functions(unittest.TestCase):
    def test_local_names(self):
        for name, node in functions():
            body = trees()[name].body
            barred = set(vars(builtins)) | BARRED | set(imported(trees()[name]))
            barred |= {one.name for one in body if isinstance(one, ast.ClassDef)}
            self.assertEqual(set(local_names(node)) & barred - {"_"}, set(), (name, node.name))

    def test_all_names(self):
        found = [node.id for _, node in nodes(ast.Name)] + [node.attr for _, node in nodes(ast.Attribute)]
        found += [node.arg for _, node in nodes(ast.arg)] + [node.name for _, node in functions()]
        found += [node.name for _, node in nodes(ast.ClassDef)]
        for one in set(found) - DOUBLE:
            self.assertRegex(one, r"^(_|_?[A-Za-z][A-Za-z0-9_]*)$")
            barred = r"_(wall|pe_|dcw_|enum_|cm_|twin_re_|lay_|law_|stub_|sre|cold|record|outside)"
            self.assertIsNone(re.match(barred, one))

    def test_builtins(self):
        allowed = BUILTINS | ERRORS | {"property", "classmethod", "staticmethod"}
        for name, node in nodes(ast.Name):
            if isinstance(node.ctx, ast.Load) and node.id in vars(builtins):
                self.assertIn(node.id, allowed, (name, node.lineno))

    def test_what_does_not_occur(self):
        for name, node in nodes(NO_NODES):
            self.fail((name, type(node).__name__))
        for name, node in nodes(ast.Constant):
            self.assertNotIsInstance(node.value, (float, complex))
            if isinstance(node.value, str):
                self.assertNotIn("%", node.value, name)
                self.assertNotRegex(node.value, r"\b(type|Meta|Enum|dataclass)\b", name)

    def test_is(self):
        for name, node in nodes(ast.Compare):
            for sign, other in zip(node.ops, node.comparators):
                if isinstance(sign, (ast.Is, ast.IsNot)):
                    self.assertTrue(isinstance(other, ast.Constant) and other.value in (None, True, False), name)

    def test_calls(self):
        for name, node in nodes(ast.Call):
            if isinstance(node.func, ast.Name) and node.func.id in BUILTINS:
                keywords = {keyword.arg for keyword in node.keywords}
                self.assertLessEqual(keywords, {"key", "reverse", "default", "start", "strict"}, (name, node.lineno))
            self.assertIsInstance(node.func, (ast.Name, ast.Attribute), (name, node.lineno))

    def test_stars_in_calls(self):
        for name, node in nodes(ast.Call):
            for passed in node.args:
                if isinstance(passed, ast.Starred):
                    self.assertIsInstance(passed.value, (ast.Name, ast.Attribute), (name, node.lineno))
                    self.assertIsInstance(node.func, (ast.Name, ast.Attribute))
                    if isinstance(node.func, ast.Name):
                        own = {one.name for _, one in functions() + nodes(ast.ClassDef)}
                        own |= set(local_names(enclosing(name, node)))
                        self.assertIn(node.func.id, own | {"zip", "max", "min"}, (name, node.lineno))

    def test_raised(self):
        for name, node in nodes(ast.Raise):
            self.assertTrue(node.exc is None or isinstance(node.exc, ast.Call) and isinstance(node.exc.func, ast.Name))


class Blocks(unittest.TestCase):
    def test_handlers_name_own_errors(self):
        own = {node.name for name, node in nodes(ast.ClassDef) if name == "errors"}
        for name, node in nodes(ast.ExceptHandler):
            told = node.type.elts if isinstance(node.type, ast.Tuple) else [node.type]
            self.assertLessEqual({one.id for one in told}, own, (name, node.lineno))

    def test_finally_and_exit_only_assign(self):
        rows = [(name, row) for name, node in nodes(ast.Try) for row in node.finalbody]
        rows += [(name, row) for name, node in functions() if node.name == "__exit__" for row in node.body]
        self.assertTrue(rows)
        for name, row in rows:
            self.assertIsInstance(row, ast.Assign, (name, row.lineno))
            self.assertIsInstance(row.value, (ast.Name, ast.Attribute), (name, row.lineno))
            self.assertIsInstance(row.targets[0], (ast.Name, ast.Attribute), (name, row.lineno))

    def test_items_come_with_a_refusal_to_iterate(self):
        for name, made in nodes(ast.ClassDef):
            named = {node.name: node for node in made.body if isinstance(node, ast.FunctionDef)}
            if "__getitem__" in named:
                self.assertRegex(ast.unparse(named["__iter__"].body[0]), r"^raise TypeError\('.*'\)$")
        for path in PACKAGE.glob("*.py"):
            self.assertNotRegex(path.read_text(encoding="ascii"), r"\(type\)|Meta|metaclass=|\.keys\b", path.name)

    def test_tables_are_only_looked_into(self):
        for name, tree in trees().items():
            tables = [node.targets[0].id for node in tree.body
                      if isinstance(node, ast.Assign) and isinstance(node.value, ast.Dict)]
            parents = {child: node for node in ast.walk(tree) for child in ast.iter_child_nodes(node)}
            for node in ast.walk(tree):
                if isinstance(node, ast.Name) and node.id in tables and isinstance(node.ctx, ast.Load):
                    self.assertIsInstance(parents[node], (ast.Subscript, ast.Compare), (name, node.lineno))


class Interface(unittest.TestCase):
    def test_defined_where_it_is_listed(self):
        listed = {
            "basics": "is_integer is_count", "ratios": "is_number Ratio",
            "solved": "steps kernel solution is_solution bar is_bar mix is_mix",
            "sums": "is_argument argument_at argument_put plain_rest rest_at rest_degree rest_put",
            "lines": "Line instance put plus times",
            "books": "Book with_line without_line renamed is_blend said",
            "directions": "direction alone pace order class_of",
            "sheets": "is_sheet steps_of sheet_blend is_held loose sheets room",
            "courses": "Course plus times led difference grown",
            "kept": "value_at look keeps break_of keeps_book break_in",
            "spaces": "is_kept dimension period degree space is_space",
            "nones": "none_blend is_none_blend",
            "follows": "follows break_by shown is_shown",
            "ties": "ties needless alike",
            "given": "through clash is_clash forced",
            "lots": "settles rank_of first_free least_spots twins",
            "plain": "is_plainly_held plain_value plain_dimension plain_space is_only_plain",
            "makers": "sums squares parted middles differences",
            "stretches": "inside keeps_within break_within is_long stray",
            "texts": "sorts is_of_sort written", "readers": "read",
            "claims": "words is_claim is_true contrary paper_of is_paper_of",
            "commands": "is_name is_command is_deed", "desk": "Desk Trial tried",
        }
        found = trees()
        for name, words in listed.items():
            made = {node.name for node in found[name].body if isinstance(node, (ast.FunctionDef, ast.ClassDef))}
            self.assertLessEqual(set(words.split()), made)


if __name__ == "__main__":
    unittest.main()

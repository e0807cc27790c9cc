"""The package keeps to ../shared/LANGUAGE.md, as far as a plain look at its files can tell."""

import ast
import builtins
import pathlib
import re
import unittest

FOLDER = pathlib.Path(__file__).resolve().parent.parent / "onewhere"
FILES = sorted(path for path in FOLDER.rglob("*") if path.is_file() and "__pycache__" not in path.parts)
BUILTINS = set(
    "len range enumerate zip min max sum abs sorted reversed int str bool bytes list tuple dict set frozenset "
    "isinstance ord repr any all divmod Exception ValueError TypeError KeyError IndexError LookupError "
    "ZeroDivisionError ArithmeticError OverflowError RuntimeError NotImplementedError AttributeError StopIteration "
    "NotImplemented".split()
)
METHODS = set(
    "append clear copy count endswith extend find get index insert isalnum isalpha isdigit islower isspace isupper "
    "items join keys ljust lower lstrip partition pop remove replace reverse rfind rjust rpartition rsplit rstrip "
    "setdefault split splitlines startswith strip update upper values zfill bit_length add discard sort".split()
)
CHANGING = set("append clear extend insert pop remove reverse setdefault update add discard sort".split())
BARRED_NAMES = set(
    "register mro elements open input version_info with_traceback add_note attrgetter breakpoint builtins compile "
    "copyright credits delattr dir eval exec exit gc getattr globals hasattr help id importlib license locals "
    "methodcaller os quit setattr super type vars sys __name__".split()
)
BARRED_WORDS = set(
    "type typing typing_extensions enum Enum IntEnum StrEnum Flag IntFlag Generic Protocol ABC ABCMeta namedtuple "
    "NamedTuple TypedDict TYPE_CHECKING abstractmethod".split()
)
ALLOWED_METHODS_OF_CLASSES = re.compile(r"(?!__).*|__(init|eq|repr|str|len|enter|exit|call|iter)__")


def trees():
    for path in FILES:
        text = path.read_text("utf-8")
        yield path, text, ast.parse(text)


def module_of(path):
    return ".".join(("onewhere", *path.relative_to(FOLDER).with_suffix("").parts)).removesuffix(".__init__")


def functions(tree):
    return [node for node in ast.walk(tree) if isinstance(node, ast.FunctionDef)]


def defined(tree):
    """The names that a module defines itself."""
    for node in tree.body:
        if isinstance(node, (ast.FunctionDef, ast.ClassDef)):
            yield node.name
        elif isinstance(node, ast.Assign):
            yield node.targets[0].id


def imported(tree):
    return [(node.module, name.name, name.asname) for node in tree.body if isinstance(node, ast.ImportFrom)
            for name in node.names]


def local_names(tree):
    """The parameters and variables of all functions."""
    for function in functions(tree):
        for node in ast.walk(function):
            if isinstance(node, ast.arg):
                yield node.arg
            elif isinstance(node, ast.Name) and isinstance(node.ctx, ast.Store):
                yield node.id
            elif isinstance(node, (ast.MatchAs, ast.MatchStar)) and node.name:
                yield node.name


def with_parents(tree):
    """(node, the node that it stands in) of all nodes but the uppermost."""
    return [(node, parent) for parent in ast.walk(tree) for node in ast.iter_child_nodes(parent)]


def calls(node, names):
    """Whether this is a call of one of the builtins with these names."""
    return isinstance(node, ast.Call) and isinstance(node.func, ast.Name) and node.func.id in names.split()


class Language(unittest.TestCase):
    def test_files(self):
        self.assertIn(FOLDER / "__init__.py", FILES)
        for path, text, _ in trees():
            self.assertRegex(path.name, r"^[a-z_][a-z0-9_]*\.py$")
            self.assertNotIn(path.stem, dir(builtins))
            self.assertNotRegex(path.stem, r"^(law_.*|tests?|testing|test_.*|site|conftest)$")
            self.assertRegex(text, r"\A[ -~\n]*\Z", path.name)

    def test_size(self):
        for path, text, tree in trees():
            rows = text.split("\n")
            self.assertLessEqual(len(rows), 401, path.name)
            self.assertLessEqual(max(map(len, rows)), 120, path.name)
            for function in functions(tree):
                self.assertLessEqual(function.end_lineno - function.lineno + 1, 40, function.name)

    def test_module_level(self):
        allowed = (ast.FunctionDef, ast.ClassDef, ast.ImportFrom, ast.Assign)
        for path, _, tree in trees():
            body = tree.body
            self.assertIsNotNone(ast.get_docstring(tree), path.name)
            for node in body[1:]:
                self.assertIsInstance(node, allowed, path.name)
            kinds = [isinstance(node, ast.ImportFrom) for node in body[1:]]
            self.assertEqual(kinds, sorted(kinds, reverse=True), path.name)
            names = [*defined(tree), *(name for _, name, _ in imported(tree))]
            self.assertEqual(len(names), len(set(names)), path.name)

    def test_imports(self):
        homes = {module_of(path): set(defined(tree)) for path, _, tree in trees()}
        needs = {}
        for path, _, tree in trees():
            needs[module_of(path)] = {module for module, _, _ in imported(tree)}
            used = {node.id for node in ast.walk(tree) if isinstance(node, ast.Name)}
            for module, name, alias in imported(tree):
                self.assertIn(name, homes.get(module, ()), path.name)
                self.assertIsNone(alias)
                self.assertIn(name, used, path.name)
            for node in ast.walk(tree):
                self.assertNotIsInstance(node, ast.Import)
        while needs:
            free = [module for module in needs if not needs[module] & set(needs)]
            self.assertTrue(free, "modules import one another in a ring")
            needs = {module: needs[module] for module in needs if module not in free}

    def test_statements_and_values(self):
        barred = (ast.Global, ast.AsyncFunctionDef, ast.AsyncFor, ast.AsyncWith, ast.Await, ast.Div, ast.MatMult)
        for path, _, tree in trees():
            for node in ast.walk(tree):
                where = f"{path.name}:{getattr(node, 'lineno', '')}"
                self.assertNotIsInstance(node, barred, where)
                if isinstance(node, ast.Constant):
                    self.assertNotIsInstance(node.value, (float, complex), where)
                    self.assertFalse(isinstance(node.value, str) and "%" in node.value, where)
                if isinstance(node, ast.BinOp) and isinstance(node.op, ast.Pow):
                    self.assertIn(getattr(node.right, "value", None), range(65), where)
                if isinstance(node, ast.Compare) and any(isinstance(op, (ast.Is, ast.IsNot)) for op in node.ops):
                    self.assertIsInstance(node.comparators[0], ast.Constant, where)
                    self.assertIn(node.comparators[0].value, (None, True, False), where)
                if isinstance(node, ast.FunctionDef):
                    self.assertEqual(node.args.posonlyargs, [], where)

    def test_names(self):
        for path, _, tree in trees():
            own = set(defined(tree)) | {name for _, name, _ in imported(tree)} | set(local_names(tree))
            for node in ast.walk(tree):
                where = f"{path.name}:{getattr(node, 'lineno', '')}"
                if isinstance(node, ast.Name):
                    self.assertFalse(node.id.startswith("_"), where)
                    self.assertNotIn(node.id, BARRED_NAMES, where)
                    self.assertTrue(node.id in own or node.id in BUILTINS, f"{where}: {node.id}")
                if isinstance(node, ast.Attribute):
                    self.assertFalse(node.attr.startswith("_"), where)
            shut = set(dir(builtins)) | {name for _, name, _ in imported(tree)}
            shut |= {node.name for node in tree.body if isinstance(node, ast.ClassDef)}
            self.assertEqual(sorted(set(local_names(tree)) & shut), [], path.name)
            self.assertEqual(sorted(set(defined(tree)) & set(dir(builtins))), [], path.name)

    def test_methods(self):
        own = {function.name for _, _, tree in trees() for function in functions(tree)}
        for path, _, tree in trees():
            for function in functions(tree):
                self.assertRegex(function.name, ALLOWED_METHODS_OF_CLASSES)
            for node in ast.walk(tree):
                if isinstance(node, ast.Call) and isinstance(node.func, ast.Attribute):
                    self.assertIn(node.func.attr, METHODS | own, f"{path.name}:{node.lineno}")

    def test_iterated_at_once(self):
        for path, _, tree in trees():
            for node, parent in with_parents(tree):
                where = f"{path.name}:{getattr(node, 'lineno', '')}"
                if isinstance(node, ast.GeneratorExp):
                    self.assertTrue(calls(parent, "list tuple dict sorted sum min max any all"), where)
                if calls(node, "zip enumerate reversed range"):
                    loop = isinstance(parent, (ast.For, ast.comprehension)) and parent.iter is node
                    self.assertTrue(loop or calls(parent, "list tuple dict sorted sum any all enumerate zip"), where)
                self.assertFalse(isinstance(node, (ast.Yield, ast.YieldFrom, ast.Starred))
                                 and not isinstance(parent, (ast.Tuple, ast.List)), where)

    def test_views_are_iterated_at_once(self):
        for path, _, tree in trees():
            for node, parent in with_parents(tree):
                if isinstance(node, ast.Call) and getattr(node.func, "attr", "") in ("items", "keys", "values"):
                    loop = isinstance(parent, (ast.For, ast.comprehension)) and parent.iter is node
                    self.assertTrue(loop or calls(parent, "list tuple dict sorted sum any all enumerate zip min max"),
                                    f"{path.name}:{node.lineno}")

    def test_sets_are_only_counted_and_sorted(self):
        for path, _, tree in trees():
            for node, parent in with_parents(tree):
                where = f"{path.name}:{getattr(node, 'lineno', '')}"
                self.assertNotIsInstance(node, ast.Set, where)
                self.assertFalse(calls(node, "frozenset"), where)
                if calls(node, "set") or isinstance(node, ast.SetComp):
                    self.assertTrue(calls(parent, "len sorted") and not parent.keywords, where)

    def test_what_a_loop_goes_over_is_not_changed_in_it(self):
        for path, _, tree in trees():
            for loop in ast.walk(tree):
                if not isinstance(loop, ast.For):
                    continue
                over = {node.id for node in ast.walk(loop.iter) if isinstance(node, ast.Name)}
                for node in ast.walk(ast.Module(loop.body, [])):
                    where = f"{path.name}:{getattr(node, 'lineno', '')}"
                    if isinstance(node, ast.Subscript) and isinstance(node.ctx, (ast.Store, ast.Del)):
                        self.assertNotIn(getattr(node.value, "id", None), over, where)
                    if isinstance(node, ast.Attribute) and node.attr in CHANGING:
                        self.assertNotIn(getattr(node.value, "id", None), over, where)

    def test_words_that_do_not_occur(self):
        for path, text, _ in trees():
            self.assertEqual(set(re.findall(r"\w+", text)) & BARRED_WORDS, set(), path.name)
            self.assertNotRegex(text, "dataclass|overload|contextmanager|\t", path.name)

    def test_classes(self):
        own = [(path, node) for path, _, tree in trees() for node in tree.body if isinstance(node, ast.ClassDef)]
        methods = {part.name for _, node in own for part in node.body if isinstance(part, ast.FunctionDef)}
        assigned = set()
        for path, node in own:
            self.assertEqual(node.decorator_list, [], path.name)
            for part in node.body:
                docstring = isinstance(part, ast.Expr) and isinstance(part.value, ast.Constant)
                self.assertTrue(docstring or isinstance(part, ast.FunctionDef), f"{path.name}:{part.lineno}")
        for path, _, tree in trees():
            self.assertFalse([node for node in ast.walk(tree) if isinstance(node, ast.ClassDef) and node not in tree.body])
            assigned |= {node.attr for node in ast.walk(tree)
                         if isinstance(node, ast.Attribute) and isinstance(node.ctx, ast.Store)}
        self.assertEqual(methods & assigned, set())
        for path, _, tree in trees():
            called = {node.func for node in ast.walk(tree) if isinstance(node, ast.Call)}
            for node in ast.walk(tree):
                if isinstance(node, ast.Attribute) and node not in called:
                    self.assertIn(node.attr, assigned, f"{path.name}:{node.lineno}")
        self.assertEqual(assigned & (METHODS | set(dir(str)) | set(dir(dict)) | set(dir(list)) | set(dir(int))), set())

    def test_errors_are_own_ones_made_on_the_spot(self):
        own = {name for path, _, tree in trees() if path.stem == "errors" for name in defined(tree)}
        for path, _, tree in trees():
            for node in ast.walk(tree):
                where = f"{path.name}:{getattr(node, 'lineno', '')}"
                if isinstance(node, ast.ExceptHandler):
                    self.assertIn(getattr(node.type, "id", None), own, where)
                    self.assertIsNone(node.name, where)
                if isinstance(node, ast.Raise):
                    self.assertIn(node.exc.func.id, own, where)
                    self.assertTrue(node.cause is None or node.cause.value is None, where)

    def test_patterns(self):
        for path, _, tree in trees():
            for match in ast.walk(tree):
                if not isinstance(match, ast.Match):
                    continue
                for case in match.cases:
                    where = f"{path.name}:{case.pattern.lineno}"
                    takes_all = isinstance(case.pattern, ast.MatchAs) and case.pattern.pattern is None
                    self.assertTrue(case is match.cases[-1] or not takes_all, where)
                    names = [node.name for node in ast.walk(case.pattern) if isinstance(node, ast.MatchAs) and node.name]
                    self.assertEqual(len(names), len(set(names)), where)
                    for node in ast.walk(case.pattern):
                        self.assertNotIsInstance(node, (ast.MatchClass, ast.MatchMapping), where)
                    for node in ast.walk(ast.Module(case.body, [])):
                        self.assertFalse(isinstance(node, ast.Name) and isinstance(node.ctx, ast.Store)
                                         and node.id in names, where)
            for function in functions(tree):
                captured = {node.name for node in ast.walk(function) if isinstance(node, ast.MatchAs) and node.name}
                self.assertEqual(captured & {arg.arg for arg in function.args.args}, set(), path.name)
                stored = {node.id for node in ast.walk(function)
                          if isinstance(node, ast.Name) and isinstance(node.ctx, ast.Store)}
                self.assertEqual(captured & stored, set(), f"{path.name}:{function.name}")

    def test_tests_stand_outside(self):
        for path, _, tree in trees():
            self.assertFalse(any(function.name.startswith("test") for function in functions(tree)), path.name)

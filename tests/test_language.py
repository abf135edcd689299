"""The rules of LANGUAGE.md that a program can see, over each file of the package.

Where a rule allows more than the package needs, the narrower reading is tested: no annotations, one generator and no
generator expressions, no lambdas, no kept ranges, no try around anything but own functions.
"""

import ast
import builtins
import pathlib
import re
import tokenize
import unittest
import warnings

PACKAGE = pathlib.Path(__file__).resolve().parent.parent / "clashborn"
FILES = sorted(PACKAGE.rglob("*.py"))
SOURCES = {path.stem: path.read_text(encoding="utf-8") for path in FILES}
TREES = {name: ast.parse(text) for name, text in SOURCES.items()}

BUILTINS = set(
    "len range enumerate zip min max sum abs sorted reversed int str bool bytes list tuple dict set isinstance ord repr "
    "any all divmod ValueError".split()
)
METHODS = set(
    "append clear copy count endswith extend find get index insert isalnum isalpha isdigit islower isspace isupper items "
    "join keys ljust lower lstrip partition pop remove replace reverse rfind rjust rpartition rsplit rstrip setdefault "
    "split splitlines startswith strip update upper values zfill bit_length isascii add discard".split()
)
CHANGING = set("append clear extend insert pop remove reverse setdefault update add discard".split())
VALUE_NAMES = set(dir(str) + dir(int) + dir(list) + dir(dict) + dir(set) + dir(bytes) + dir(tuple))
LIBRARY = {"heapq", "math", "itertools", "collections"}
NOWHERE = {"register", "mro", "elements", "open", "input", "law", "version_info", "with_traceback", "add_note"}
NO_NAMES = set(
    "attrgetter breakpoint builtins compile copyright credits delattr dir eval exec exit gc getattr globals hasattr help "
    "id importlib license locals methodcaller os quit setattr super type vars sys".split()
)
NO_WORDS = set(
    "type typing typing_extensions enum Enum IntEnum StrEnum Flag IntFlag Generic Protocol ABC ABCMeta namedtuple "
    "NamedTuple TypedDict TYPE_CHECKING abstractmethod dataclass overload contextmanager".split()
)
NODES = (
    ast.Module, ast.Import, ast.ImportFrom, ast.alias, ast.FunctionDef, ast.ClassDef, ast.arguments, ast.arg, ast.Return,
    ast.Assign, ast.For, ast.While, ast.If, ast.Raise, ast.Try, ast.ExceptHandler, ast.Expr, ast.Pass, ast.Break,
    ast.Continue, ast.BoolOp, ast.BinOp, ast.UnaryOp, ast.IfExp, ast.Dict, ast.ListComp, ast.DictComp, ast.comprehension,
    ast.Compare, ast.Call, ast.keyword, ast.Constant, ast.Attribute, ast.Subscript, ast.Starred, ast.Name, ast.List,
    ast.Tuple, ast.Slice, ast.JoinedStr, ast.FormattedValue, ast.And, ast.Or, ast.Not, ast.USub, ast.Add, ast.Sub,
    ast.Mult, ast.FloorDiv, ast.Mod, ast.Pow, ast.LShift, ast.RShift, ast.BitAnd, ast.BitOr, ast.BitXor, ast.Eq,
    ast.NotEq, ast.Lt, ast.LtE, ast.Gt, ast.GtE, ast.Is, ast.IsNot, ast.In, ast.NotIn, ast.Load, ast.Store, ast.AugAssign,
    ast.Yield,
)
SPECIAL = {"__init__", "__eq__", "__len__", "__add__"}


def nodes(*kinds):
    """Pairs (file, node) of all nodes of these kinds."""
    return [(name, node) for name, tree in TREES.items() for node in ast.walk(tree) if isinstance(node, kinds)]


def functions():
    """Pairs (file, node) of all functions and methods."""
    return nodes(ast.FunctionDef)


def parameters(function):
    """The names of all parameters."""
    args = function.args
    stars = [arg for arg in (args.vararg, args.kwarg) if arg is not None]
    return [arg.arg for arg in args.posonlyargs + args.args + args.kwonlyargs + stars]


def local_names(function):
    """The parameters and all names that the function assigns."""
    stored = [node.id for node in ast.walk(function) if isinstance(node, ast.Name) and isinstance(node.ctx, ast.Store)]
    return parameters(function) + stored


def top_names(tree):
    """The names that are bound at module level, with those of imports."""
    found = []
    for node in tree.body:
        if isinstance(node, (ast.FunctionDef, ast.ClassDef)):
            found.append(node.name)
        elif isinstance(node, ast.Assign):
            found += [target.id for target in node.targets]
        elif isinstance(node, ast.ImportFrom):
            found += [name.name for name in node.names]
    return found


def parents(tree):
    """For each node the node above it."""
    return {child: node for node in ast.walk(tree) for child in ast.iter_child_nodes(node)}


class FilesTest(unittest.TestCase):
    def test_the_folder_holds_plain_files_alone(self):
        for path in PACKAGE.rglob("*"):
            if "__pycache__" not in path.parts:
                self.assertEqual(path.suffix, ".py", path)
                self.assertRegex(path.name, r"^[a-z][a-z0-9_]*\.py$|^__init__\.py$")
                self.assertNotRegex(path.name, r"^(law_|test)|^(test|tests|testing|site|conftest)\.py$")
                self.assertNotIn(path.stem, dir(builtins))
        self.assertLessEqual(len(FILES), 100)

    def test_characters_and_sizes(self):
        for path in FILES:
            text = SOURCES[path.stem]
            self.assertIsNone(re.search(r"[^ -~\n]", text), path)
            self.assertTrue(text.endswith("\n"), path)
            lines = text.split("\n")
            self.assertLessEqual(len(lines), 400, path)
            self.assertLessEqual(max(map(len, lines)), 120, path)
            self.assertNotRegex(text, r"_wall|_WallAttr")
        for name, node in functions():
            self.assertLessEqual(node.end_lineno - node.lineno + 1, 40, (name, node.name))

    def test_no_warnings(self):
        with warnings.catch_warnings():
            warnings.simplefilter("error")
            for path in FILES:
                compile(SOURCES[path.stem], str(path), "exec")

    def test_words_that_do_not_occur(self):
        for path in FILES:
            docstrings = [node.value for name, node in nodes(ast.Expr) if name == path.stem]
            lines = {line for node in docstrings for line in range(node.lineno, node.end_lineno + 1)}
            with open(path, "rb") as file:
                for token in tokenize.tokenize(file.readline):
                    if token.type in (tokenize.NAME, tokenize.STRING) and token.start[0] not in lines:
                        words = set(re.findall(r"\w+", token.string))
                        self.assertFalse(words & NO_WORDS, (path, token.string))
                        self.assertNotRegex(token.string, "dataclass|overload|contextmanager")


class StatementsTest(unittest.TestCase):
    def test_only_plain_parts(self):
        for name, tree in TREES.items():
            for node in ast.walk(tree):
                self.assertIsInstance(node, NODES, (name, getattr(node, "lineno", 0), type(node)))

    def test_module_level(self):
        for name, tree in TREES.items():
            for k, node in enumerate(tree.body):
                if isinstance(node, ast.Expr):
                    self.assertTrue(k == 0 and isinstance(node.value, ast.Constant), (name, node.lineno))
                elif isinstance(node, ast.Assign):
                    self.assertEqual(len(node.targets), 1)
                    ast.literal_eval(node.value)
                else:
                    self.assertIsInstance(node, (ast.ImportFrom, ast.FunctionDef, ast.ClassDef), (name, node.lineno))
            found = top_names(tree)
            self.assertEqual(len(found), len(set(found)), name)
            self.assertTrue(ast.get_docstring(tree), name)

    def test_imports(self):
        uses = {name: set() for name in TREES}
        for name, node in nodes(ast.Import, ast.ImportFrom):
            self.assertIsInstance(node, ast.ImportFrom, name)
            self.assertIn(node, TREES[name].body, name)
            self.assertEqual(node.level, 0)
            if node.module == "math":
                continue
            self.assertRegex(node.module, r"^clashborn\.[a-z]+$")
            target = node.module.partition(".")[2]
            uses[name].add(target)
            defined = [item.name for item in TREES[target].body if isinstance(item, (ast.FunctionDef, ast.ClassDef))]
            defined += [item.targets[0].id for item in TREES[target].body if isinstance(item, ast.Assign)]
            for alias in node.names:
                self.assertIsNone(alias.asname)
                self.assertIn(alias.name, defined, (name, alias.name))
        self.assertFalse(self.circles(uses))

    def test_the_library_is_called_by_bare_names_alone(self):
        for name, tree in TREES.items():
            above = parents(tree)
            taken = [alias for node in tree.body if isinstance(node, ast.ImportFrom) and node.module == "math"
                     for alias in node.names]
            for alias in taken:
                self.assertIsNone(alias.asname)
                self.assertIn(alias.name, ("gcd", "comb"))
            names = {alias.name for alias in taken}
            for node in ast.walk(tree):
                if isinstance(node, ast.Name) and node.id in names:
                    call = above[node]
                    self.assertTrue(isinstance(call, ast.Call) and call.func is node and not call.keywords, name)

    def test_generators_yield_in_plain_statements(self):
        found = []
        for name, tree in TREES.items():
            above = parents(tree)
            for node in ast.walk(tree):
                if isinstance(node, ast.Yield):
                    self.assertIsInstance(above[node], ast.Expr)
                    self.assertIsInstance(above[above[node]], ast.For)
                    found.append(name)
        # Each name of a generator is its own; nothing in the package calls one.
        self.assertEqual(found, ["madenumbers"])
        for _, node in nodes(ast.Name, ast.Attribute):
            self.assertNotIn("made_list", (getattr(node, "id", ""), getattr(node, "attr", "")))
        self.assertEqual([node.name for _, node in functions()].count("made_list"), 1)

    def test_imports_are_used_and_stand_at_the_top(self):
        for name, tree in TREES.items():
            read = {node.id for node in ast.walk(tree) if isinstance(node, ast.Name)}
            ends = False
            for node in tree.body:
                if isinstance(node, ast.ImportFrom):
                    self.assertFalse(ends, name)
                    for alias in node.names:
                        self.assertIn(alias.name, read, (name, alias.name))
                elif not isinstance(node, ast.Expr):
                    ends = True

    def circles(self, uses):
        """The files that are left when files that import nothing that is left are taken away."""
        left = {name: set(found) for name, found in uses.items()}
        while True:
            free = [name for name in left if not left[name] & set(left)]
            if not free:
                return left
            for name in free:
                del left[name]

    def test_functions_are_plain(self):
        for name, node in functions():
            self.assertEqual(node.decorator_list, [], name)
            self.assertIsNone(node.returns)
            self.assertEqual((node.args.posonlyargs, node.args.kwonlyargs, node.args.kwarg), ([], [], None))
            for default in node.args.defaults:
                self.assertIsInstance(default, ast.Constant, (name, node.name))
                self.assertIsInstance(default.value, (int, str), (name, node.name))
            for arg in node.args.args:
                self.assertIsNone(arg.annotation)
            above = parents(TREES[name])[node]
            self.assertIsInstance(above, (ast.Module, ast.ClassDef))
            self.assertTrue(ast.get_docstring(node) or node.name in SPECIAL, (name, node.name))

    def test_classes_are_plain(self):
        for name, node in nodes(ast.ClassDef):
            self.assertIn(node, TREES[name].body)
            self.assertEqual((node.decorator_list, node.keywords), ([], []))
            for item in node.body[1:]:
                self.assertIsInstance(item, ast.FunctionDef)
            methods = [item.name for item in node.body if isinstance(item, ast.FunctionDef)]
            self.assertEqual(len(methods), len(set(methods)))
            stored = {part.attr for part in ast.walk(node) if isinstance(part, ast.Attribute)
                      and isinstance(part.ctx, ast.Store)}
            self.assertFalse(stored & set(methods), (name, node.name))
            for method in methods:
                if method.startswith("__"):
                    self.assertIn(method, SPECIAL)
                else:
                    self.assertNotIn(method, VALUE_NAMES - METHODS)

    def test_errors_are_raised_and_caught_by_name(self):
        own = {node.name for _, node in nodes(ast.ClassDef)}
        for name, node in nodes(ast.Raise):
            self.assertIsInstance(node.exc, ast.Call, (name, node.lineno))
            self.assertIn(node.exc.func.id, own)
            self.assertIsNone(node.cause)
        for name, node in nodes(ast.Try):
            self.assertFalse(node.finalbody)
            for handler in node.handlers:
                self.assertIn(handler.type.id, own)

    def test_is_stands_with_none_or_a_truth_value(self):
        for name, node in nodes(ast.Compare):
            for sign, right in zip(node.ops, node.comparators):
                if isinstance(sign, (ast.Is, ast.IsNot)):
                    self.assertIsInstance(right, ast.Constant, (name, node.lineno))
                    self.assertIn(repr(right.value), ("None", "True", "False"))


class ExpressionsTest(unittest.TestCase):
    def test_builtins_and_names(self):
        known_builtins = set(dir(builtins))
        for name, tree in TREES.items():
            known = set(top_names(tree))
            for _, function in [pair for pair in functions() if pair[0] == name]:
                names = local_names(function)
                for local in names:
                    self.assertNotIn(local, known, (name, function.name, local))
                    self.assertNotIn(local, known_builtins, (name, function.name, local))
                for node in ast.walk(function):
                    if isinstance(node, ast.Name) and node.id not in names and node.id not in known:
                        self.assertIn(node.id, BUILTINS, (name, node.lineno))
            self.assertFalse(known & (known_builtins | NO_NAMES), name)

    def test_names_are_plain(self):
        for name, tree in TREES.items():
            found = set(top_names(tree))
            for node in ast.walk(tree):
                if isinstance(node, ast.Name):
                    found.add(node.id)
                elif isinstance(node, ast.Attribute):
                    found.add(node.attr)
                    self.assertFalse(node.attr.startswith("__"), (name, node.lineno))
                elif isinstance(node, ast.arg):
                    found.add(node.arg)
            self.assertFalse(found & (NOWHERE | (NO_NAMES & found - {"type"})), name)
            for word in found:
                self.assertRegex(word, r"^_?[A-Za-z][A-Za-z0-9_]*$|^_$", name)
                self.assertNotRegex(word, r"^_(pe|dcw|enum|cm|twin_re|lay|law|stub)_|^_sre|^_(cold|outside|record)")
        for name, node in nodes(ast.Name):
            self.assertFalse(node.id == "_" and isinstance(node.ctx, ast.Load), (name, node.lineno))

    def test_methods_of_values(self):
        own = {item.name for _, node in nodes(ast.ClassDef) for item in node.body if isinstance(item, ast.FunctionDef)}
        for name, node in nodes(ast.Call):
            if isinstance(node.func, ast.Attribute):
                self.assertIn(node.func.attr, own | METHODS, (name, node.lineno))
                if node.func.attr not in own:
                    self.assertEqual(node.keywords, [], (name, node.lineno))
            else:
                self.assertIsInstance(node.func, ast.Name, (name, node.lineno))
            self.assertEqual(node.keywords, [], (name, node.lineno))

    def test_attributes_are_assigned_somewhere(self):
        stored = {node.attr for _, node in nodes(ast.Attribute) if isinstance(node.ctx, ast.Store)}
        for name, tree in TREES.items():
            above = parents(tree)
            for node in ast.walk(tree):
                if isinstance(node, ast.Attribute) and isinstance(node.ctx, ast.Load):
                    call = above[node]
                    if not (isinstance(call, ast.Call) and call.func is node):
                        self.assertIn(node.attr, stored, (name, node.lineno))
                        self.assertNotIn(node.attr, VALUE_NAMES - {"count", "index", "add"})

    def test_calls_pass_what_functions_take(self):
        defined = {(name, node.name): node.args for name, tree in TREES.items() for node in tree.body
                   if isinstance(node, ast.FunctionDef)}
        for name, node in nodes(ast.ImportFrom):
            for alias in node.names:
                found = defined.get((node.module.partition(".")[2], alias.name))
                if found is not None:
                    defined[name, alias.name] = found
        for name, node in nodes(ast.Call):
            if isinstance(node.func, ast.Name) and (name, node.func.id) in defined:
                args = defined[name, node.func.id]
                if args.vararg is None and not any(isinstance(arg, ast.Starred) for arg in node.args):
                    self.assertEqual(len(node.args), len(args.args), (name, node.lineno))

    def test_iterators_are_iterated_at_once(self):
        takers = {"list", "tuple", "dict", "sorted", "sum", "any", "all", "enumerate", "zip", "min", "max"}
        for name, tree in TREES.items():
            above = parents(tree)
            for node in ast.walk(tree):
                if isinstance(node, ast.Call) and (
                    isinstance(node.func, ast.Name) and node.func.id in ("zip", "enumerate", "reversed", "range")
                    or isinstance(node.func, ast.Attribute) and node.func.attr in ("items", "keys", "values")
                ):
                    over = above[node]
                    fine = isinstance(over, (ast.For, ast.comprehension)) and over.iter is node
                    fine = fine or isinstance(over, ast.Call) and getattr(over.func, "id", "") in takers
                    self.assertTrue(fine, (name, node.lineno))

    def test_sets_are_sorted_or_counted_at_once(self):
        for name, tree in TREES.items():
            above = parents(tree)
            for node in ast.walk(tree):
                if isinstance(node, ast.Call) and isinstance(node.func, ast.Name) and node.func.id == "set":
                    over = above[node]
                    self.assertTrue(isinstance(over, ast.Call) and over.func.id in ("sorted", "len"), (name, node.lineno))

    def test_loops_do_not_change_what_they_go_over(self):
        for name, node in nodes(ast.For):
            over = {part.id for part in ast.walk(node.iter) if isinstance(part, ast.Name)}
            over |= {part.attr for part in ast.walk(node.iter) if isinstance(part, ast.Attribute)}
            for part in [part for statement in node.body for part in ast.walk(statement)]:
                changed = None
                if isinstance(part, ast.Call) and isinstance(part.func, ast.Attribute) and part.func.attr in CHANGING:
                    changed = part.func.value
                elif isinstance(part, ast.Subscript) and isinstance(part.ctx, ast.Store):
                    changed = part.value
                if changed is not None:
                    base = changed.value if isinstance(changed, ast.Subscript) else changed
                    word = base.attr if isinstance(base, ast.Attribute) else getattr(base, "id", None)
                    inside = word in over and not isinstance(node.iter, ast.Call)
                    self.assertFalse(inside, (name, part.lineno, word))

    def test_powers_and_strings(self):
        for name, node in nodes(ast.BinOp):
            if isinstance(node.op, ast.Pow):
                self.assertTrue(isinstance(node.right, ast.Constant) and 0 <= node.right.value <= 64, (name, node.lineno))
        for name, node in nodes(ast.Constant):
            self.assertNotIsInstance(node.value, (float, complex, bytes))
            if isinstance(node.value, str):
                self.assertNotIn("%", node.value, (name, node.lineno))
                self.assertFalse(node.value.endswith(("._", ".__")))
                self.assertNotRegex(node.value, r"^__.*__$")

    def test_stars_stand_behind_plain_arguments(self):
        for name, node in nodes(ast.Starred):
            self.assertIsInstance(node.value, ast.Name, (name, node.lineno))


class OperatorsTest(unittest.TestCase):
    """A package with an operator: what __eq__, __len__ and __add__ run changes nothing but what it created."""

    def test_no_added_assignments(self):
        self.assertEqual(nodes(ast.AugAssign), [])

    def test_equality_is_one_plain_return(self):
        for name, node in functions():
            if node.name in ("__eq__", "__len__"):
                self.assertEqual(len(node.body), 1, name)
                self.assertIsInstance(node.body[0], ast.Return)
            if node.name == "__len__":
                self.assertEqual(node.body[0].value.func.id, "len")
            if node.name == "__init__":
                self.assertFalse([part for part in ast.walk(node) if isinstance(part, ast.Return)])


if __name__ == "__main__":
    unittest.main()

"""The package keeps to the language of LANGUAGE.md; the numbers are those of its rules."""

import ast
import builtins
import pathlib
import re
import tokenize
import unittest

PACKAGE = pathlib.Path(__file__).resolve().parent.parent / "heldover"
FILES = sorted(PACKAGE.glob("*.py"))
TREES = {path: ast.parse(path.read_text(encoding="utf-8")) for path in FILES}
OWN = "heldover"

ALLOWED_BUILTINS = set(
    "len range enumerate zip min max sum abs sorted reversed int str bool bytes list tuple dict set frozenset isinstance "
    "ord repr any all divmod Exception ValueError TypeError KeyError IndexError LookupError ZeroDivisionError "
    "ArithmeticError OverflowError RuntimeError NotImplementedError AttributeError NotImplemented map iter next super "
    "property staticmethod classmethod".split()
)
BUILTIN_METHODS = set(
    "append clear copy count endswith extend find get index insert isalnum isalpha isdigit islower isspace isupper items "
    "join keys ljust lower lstrip partition pop remove replace reverse rfind rjust rpartition rsplit rstrip setdefault "
    "split splitlines startswith strip update upper values zfill bit_length title capitalize swapcase casefold center "
    "expandtabs removeprefix removesuffix rindex isascii isdecimal isnumeric istitle isidentifier isprintable".split()
)
DUNDERS = set(
    "__init__ __eq__ __repr__ __str__ __len__ __enter__ __exit__ __call__ __iter__ __lt__ __le__ __gt__ __ge__ __ne__ "
    "__add__ __contains__ __getitem__ __setitem__ __bool__ __slots__".split()
)
BARRED_ATTRIBUTES = set(
    "items keys values pop update append clear extend insert remove reverse setdefault sort args encode decode hex "
    "fromhex format format_map mro as_integer_ratio bit_count conjugate from_bytes is_integer to_bytes real imag "
    "numerator denominator".split()
)
BARRED_NAMES = set(
    "register mro elements open input law version_info with_traceback add_note attrgetter breakpoint builtins compile "
    "copyright credits delattr dir eval exec exit gc getattr globals hasattr help id importlib license locals "
    "methodcaller os quit setattr type vars sys __name__".split()
)
BARRED_WORDS = re.compile(
    r"\b(type|typing|typing_extensions|enum|Enum|IntEnum|StrEnum|Flag|IntFlag|Generic|Protocol|ABC|ABCMeta|namedtuple|"
    r"NamedTuple|TypedDict|TYPE_CHECKING|abstractmethod)\b|dataclass|overload|contextmanager"
)
LAZY = ("zip", "enumerate", "reversed", "range")
VIEWS = ("items", "keys", "values")
TAKERS = ("list", "tuple", "dict", "sorted", "sum", "any", "all", "enumerate", "zip", "min", "max")


def parents(tree):
    return {child: node for node in ast.walk(tree) for child in ast.iter_child_nodes(node)}


def functions(tree):
    return [node for node in ast.walk(tree) if isinstance(node, ast.FunctionDef)]


def classes(tree):
    return [node for node in ast.walk(tree) if isinstance(node, ast.ClassDef)]


def own_methods():
    return {function.name for tree in TREES.values() for one in classes(tree) for function in functions(one)}


def assigned_attributes(node):
    return {one.attr for one in ast.walk(node) if isinstance(one, ast.Attribute) and isinstance(one.ctx, ast.Store)}


def own_attributes():
    return {name for tree in TREES.values() for one in classes(tree) for name in assigned_attributes(one)}


def class_values():
    """The names that are given values in the bodies of classes."""
    rows = [row for tree in TREES.values() for one in classes(tree) for row in one.body if isinstance(row, ast.Assign)]
    return {target.id for row in rows for target in row.targets}


def bound_names(tree):
    """All names that are given a meaning, with their nodes."""
    for node in ast.walk(tree):
        if isinstance(node, (ast.FunctionDef, ast.ClassDef)):
            yield node.name, node
        elif isinstance(node, ast.arg):
            yield node.arg, node
        elif isinstance(node, ast.Name) and isinstance(node.ctx, ast.Store):
            yield node.id, node
        elif isinstance(node, ast.alias):
            yield node.asname or node.name, node
        elif isinstance(node, ast.ExceptHandler) and node.name:
            yield node.name, node


class LanguageTest(unittest.TestCase):
    def each(self):
        return TREES.items()

    def check(self, good, path, node, rule):
        self.assertTrue(good, f"{rule}: {path.name}:{getattr(node, 'lineno', 0)}")

    def test_l1_l14_files(self):
        names = [path.name for path in PACKAGE.iterdir() if path.name != "__pycache__"]
        self.assertIn("__init__.py", names)
        for name in names:
            self.assertRegex(name, r"^([a-z][a-z0-9_]*|__init__)\.py$")
            self.assertFalse(name.startswith(("law_", "test")))
            self.assertNotIn(name[:-3], dir(builtins))
        for path in FILES:
            self.assertTrue(all(sign == "\n" or " " <= sign <= "~" for sign in path.read_text()), path.name)

    def test_l2_l16_imports(self):
        graph = {}
        for path, tree in self.each():
            graph[path.stem] = set()
            for node in ast.walk(tree):
                self.check(not isinstance(node, ast.Import), path, node, "L16")
                if isinstance(node, ast.ImportFrom):
                    self.check(node in tree.body and node.level == 0 and node.module.startswith(OWN + "."), path, node, "L2")
                    stem = node.module.split(".")[1]
                    graph[path.stem].add(stem)
                    there = TREES[PACKAGE / f"{stem}.py"]
                    defined = {one.name for one in there.body if isinstance(one, (ast.FunctionDef, ast.ClassDef))}
                    defined |= {target.id for one in there.body if isinstance(one, ast.Assign) for target in one.targets}
                    for alias in node.names:
                        self.check(alias.name in defined and alias.asname is None, path, node, "L16")
        self.assertFalse(self.ring(graph), "L16: files import from each other")

    def ring(self, graph):
        left = dict(graph)
        while left:
            free = [name for name, others in left.items() if not others & set(left)]
            if not free:
                return True
            for name in free:
                del left[name]
        return False

    def test_imported_names_are_used(self):
        for path, tree in self.each():
            used = {node.id for node in ast.walk(tree) if isinstance(node, ast.Name)}
            for node in ast.walk(tree):
                if isinstance(node, ast.alias):
                    self.check(node.name in used, path, node, "an import that is not used")

    def test_l3_l15_module_level(self):
        for path, tree in self.each():
            names = []
            for node in tree.body:
                allowed = (ast.ImportFrom, ast.FunctionDef, ast.ClassDef, ast.Assign)
                docstring = isinstance(node, ast.Expr) and isinstance(node.value, ast.Constant)
                self.check(isinstance(node, allowed) or docstring, path, node, "L3")
                if isinstance(node, ast.Assign):
                    self.check(len(node.targets) == 1 and isinstance(node.targets[0], ast.Name), path, node, "L3")
                    self.check(not any(isinstance(one, ast.Call) for one in ast.walk(node)), path, node, "L3")
                    for one in ast.walk(node.value):
                        inside = one is not node.value and isinstance(one, (ast.List, ast.Dict, ast.Set))
                        self.check(not inside, path, node, "L15")
                    names.append(node.targets[0].id)
                if isinstance(node, (ast.FunctionDef, ast.ClassDef)):
                    names.append(node.name)
                if isinstance(node, ast.ImportFrom):
                    names.extend(alias.name for alias in node.names)
            self.assertEqual(len(names), len(set(names)), f"L15: {path.name}")

    def test_l3_tables_hold_functions_defined_above(self):
        for path, tree in self.each():
            above = set()
            for node in tree.body:
                if isinstance(node, ast.FunctionDef):
                    above.add(node.name)
                if isinstance(node, ast.Assign):
                    named = {one.id for one in ast.walk(node.value) if isinstance(one, ast.Name)}
                    self.check(named <= above, path, node, "L3")

    def test_l15_names(self):
        for path, tree in self.each():
            barred = {node.name for node in tree.body if isinstance(node, ast.ClassDef)}
            barred |= {alias.name for node in tree.body if isinstance(node, ast.ImportFrom) for alias in node.names}
            methods = {function for one in classes(tree) for function in one.body}
            for name, node in bound_names(tree):
                if isinstance(node, (ast.Name, ast.arg)) or isinstance(node, ast.FunctionDef) and node not in methods:
                    self.check(name not in barred, path, node, f"L15 {name}")
                if node not in methods:
                    self.check(name not in dir(builtins), path, node, f"L15 {name}")
                self.check(name not in BARRED_NAMES, path, node, f"L17 {name}")
                plain = re.fullmatch(r"_|_?[A-Za-z][A-Za-z0-9_]*", name) or name in DUNDERS
                self.check(plain, path, node, f"L12 {name}")
                self.check(name not in ("_cold", "_tuplegetter", "_outside", "_record", "_written_out"), path, node, "L12")

    def test_l4_l21_functions(self):
        for path, tree in self.each():
            for node in functions(tree):
                self.check(node.returns is None, path, node, "L21")
                for decorator in node.decorator_list:
                    self.check(decorator.id in ("property", "classmethod", "staticmethod"), path, node, "L4")
                for default in [*node.args.defaults, *[one for one in node.args.kw_defaults if one is not None]]:
                    plain = isinstance(default, (ast.Constant, ast.Name)) or ast.unparse(default) == "()"
                    self.check(plain, path, node, "L4")
                if node.name.startswith("__") and node.name != "__init__":
                    self.check(not node.args.defaults and not node.args.kwonlyargs, path, node, "L4")

    def test_l5_l28_classes(self):
        for path, tree in self.each():
            for one in classes(tree):
                self.check(one in tree.body and not one.decorator_list, path, one, "L5")
                names = [function.name for function in functions(one)]
                self.assertEqual(len(names), len(set(names)))
                self.check(not set(names) & assigned_attributes(one), path, one, "L18")
                for function in functions(one):
                    dunder = function.name.startswith("__")
                    self.check(not dunder or function.name in DUNDERS, path, function, "L5")
                    returns = [node for node in ast.walk(function) if isinstance(node, ast.Return)]
                    if function.name == "__init__":
                        self.check(not returns, path, function, "L28")
                    elif dunder:
                        stores = [node for node in ast.walk(function) if isinstance(getattr(node, "ctx", None), ast.Store)]
                        self.check(not stores and isinstance(function.body[-1], ast.Return), path, function, "L28")

    def test_l18_no_name_is_a_method_and_an_attribute(self):
        self.assertFalse(own_methods() & own_attributes())

    def test_l18_attributes_that_are_read_are_assigned(self):
        known = own_attributes() | own_methods() | class_values() | BUILTIN_METHODS
        for path, tree in self.each():
            for node in ast.walk(tree):
                if isinstance(node, ast.Attribute):
                    self.check(node.attr in known, path, node, f"L18 {node.attr}")

    def test_l5_names_in_classes(self):
        decorated, plain = set(), set()
        for path, tree in self.each():
            for one in classes(tree):
                for name, node in bound_names(one):
                    self.check(name not in ("property", "staticmethod", "classmethod", "super", "args"), path, node, "L5")
                for function in functions(one):
                    (decorated if function.decorator_list else plain).add(function.name)
        self.assertFalse(decorated & (plain | own_attributes() | class_values() | BUILTIN_METHODS), "L5")

    def test_l6_statements(self):
        barred = (ast.Global, ast.AsyncFunctionDef, ast.Match, ast.With, ast.Nonlocal, ast.Lambda)
        for path, tree in self.each():
            for node in ast.walk(tree):
                self.check(not isinstance(node, barred), path, node, "L6")
                if isinstance(node, ast.Expr) and not isinstance(node.value, ast.Constant):
                    self.check(isinstance(node.value, (ast.Call, ast.Yield, ast.YieldFrom)), path, node, "L6")

    def test_l7_expressions(self):
        for path, tree in self.each():
            for node in ast.walk(tree):
                self.check(not isinstance(node, (ast.GeneratorExp, ast.Div, ast.MatMult, ast.NamedExpr)), path, node, "L7")
                if isinstance(node, ast.Constant):
                    self.check(not isinstance(node.value, (float, complex, bytes)), path, node, "L7")

    def test_l8_l17_builtins(self):
        for path, tree in self.each():
            for node in ast.walk(tree):
                if isinstance(node, ast.Name) and node.id in dir(builtins):
                    self.check(node.id in ALLOWED_BUILTINS, path, node, f"L8 {node.id}")
            rows = path.read_text().splitlines()
            for token in tokenize.generate_tokens(iter([row + "\n" for row in rows]).__next__):
                docstring = token.type == tokenize.STRING and token.string.startswith('"""')
                if token.type != tokenize.COMMENT and not docstring:
                    self.assertIsNone(BARRED_WORDS.search(token.string), f"L17: {path.name}: {token.string}")

    def test_l10_size(self):
        for path, tree in self.each():
            rows = path.read_text().splitlines()
            self.assertLessEqual(len(rows), 399, f"L10: {path.name}")
            self.assertTrue(all(len(row) <= 120 and "\t" not in row for row in rows), f"L10: {path.name}")
            for node in functions(tree):
                self.check(node.end_lineno - node.lineno < 40, path, node, "L10")

    def test_l19_errors(self):
        own = {one.name for one in classes(TREES[PACKAGE / "errors.py"])}
        for path, tree in self.each():
            for node in ast.walk(tree):
                if isinstance(node, ast.Raise):
                    call = isinstance(node.exc, ast.Call) and isinstance(node.exc.func, ast.Name)
                    self.check(call and node.exc.func.id in own, path, node, "L19")
                if isinstance(node, ast.Try):
                    self.check(not node.finalbody and not node.orelse, path, node, "L19")
                    for handler in node.handlers:
                        caught = handler.type.elts if isinstance(handler.type, ast.Tuple) else [handler.type]
                        self.check({one.id for one in caught} <= own, path, node, "L19")
                        self.check(self.reads_attributes(handler), path, node, "L19")

    def reads_attributes(self, handler):
        """Of an error that is named only its own attributes are read."""
        named = [node for node in ast.walk(handler) if isinstance(node, ast.Name) and node.id == handler.name]
        above = parents(handler)
        return all(isinstance(above[node], ast.Attribute) and above[node].attr != "args" for node in named)

    def test_l20_is(self):
        for path, tree in self.each():
            for node in ast.walk(tree):
                if isinstance(node, ast.Compare):
                    for sign, side in zip(node.ops, node.comparators):
                        literal = isinstance(side, ast.Constant) and side.value in (None, True, False)
                        self.check(not isinstance(sign, (ast.Is, ast.IsNot)) or literal, path, node, "L20")

    def test_l22_calls_of_builtins(self):
        keywords = {"sorted": ("key", "reverse"), "min": ("key", "default"), "max": ("key", "default"),
                    "sum": ("start",), "enumerate": ("start",), "zip": ("strict",)}
        for path, tree in self.each():
            above = parents(tree)
            for node in ast.walk(tree):
                if isinstance(node, ast.Call) and isinstance(node.func, ast.Name) and node.func.id in dir(builtins):
                    for keyword in node.keywords:
                        self.check(keyword.arg in keywords.get(node.func.id, ()), path, node, "L22")
                    self.check(not any(isinstance(one, ast.Starred) for one in node.args), path, node, "L7")
                called = isinstance(above.get(node), ast.Call) and above[node].func is node
                decorated = isinstance(above.get(node), ast.FunctionDef) and node in above[node].decorator_list
                if isinstance(node, ast.Name) and node.id in dir(builtins) and not called and not decorated:
                    self.check(self.is_named_class(node, above), path, node, f"L22 {node.id}")

    def is_named_class(self, node, above):
        """In isinstance, alone or in a tuple, as a base class, or NotImplemented as a result."""
        parent = above[node]
        if node.id == "NotImplemented":
            return isinstance(parent, ast.Return)
        if isinstance(parent, ast.ClassDef):
            return True
        if isinstance(parent, ast.Tuple):
            node, parent = parent, above[parent]
        called = isinstance(parent, ast.Call) and isinstance(parent.func, ast.Name)
        return called and parent.func.id == "isinstance" and parent.args[1] is node

    def test_l23_iterated_at_once(self):
        for path, tree in self.each():
            above = parents(tree)
            for node in ast.walk(tree):
                if not isinstance(node, ast.Call):
                    continue
                lazy = isinstance(node.func, ast.Name) and node.func.id in LAZY
                view = isinstance(node.func, ast.Attribute) and node.func.attr in VIEWS
                if lazy or view:
                    self.check(self.is_iterated(node, above[node]), path, node, "L23")

    def is_iterated(self, node, parent):
        if isinstance(parent, (ast.For, ast.comprehension)):
            return parent.iter is node
        named = isinstance(parent, ast.Call) and isinstance(parent.func, ast.Name)
        return named and parent.func.id in TAKERS and parent.args[0] is node

    def test_l23_generators(self):
        makers = {}
        for path, tree in TREES.items():
            for function in functions(tree):
                if any(isinstance(node, (ast.Yield, ast.YieldFrom)) for node in ast.walk(function)):
                    makers[function.name] = path
        self.assertEqual(set(makers), {"statements", "entries", "stages"})
        everything = [function.name for tree in TREES.values() for function in functions(tree)]
        self.assertTrue(all(everything.count(name) == 1 for name in makers), "L23")
        for path, tree in self.each():
            above = parents(tree)
            for node in ast.walk(tree):
                if isinstance(node, ast.Name) and node.id in makers:
                    call = above[node]
                    self.check(isinstance(call, ast.Call) and call.func is node, path, node, "L23")
                    self.check(self.is_iterated(call, above[call]), path, node, "L23")
                    self.check(all(isinstance(one, (ast.Name, ast.Attribute)) for one in call.args), path, node, "L23")

    def test_l24_sets(self):
        for path, tree in self.each():
            above = parents(tree)
            for node in ast.walk(tree):
                self.check(not isinstance(node, (ast.Set, ast.SetComp)), path, node, "L24")
                if isinstance(node, ast.Call) and isinstance(node.func, ast.Name) and node.func.id == "set":
                    parent = above[node]
                    named = isinstance(parent, ast.Call) and isinstance(parent.func, ast.Name)
                    self.check(named and parent.func.id in ("len", "sorted") and not parent.keywords, path, node, "L24")

    def test_l25_l26_methods(self):
        methods = own_methods()
        self.assertFalse(own_attributes() & BARRED_ATTRIBUTES, "L26")
        for path, tree in self.each():
            above = parents(tree)
            for node in ast.walk(tree):
                if not isinstance(node, ast.Attribute):
                    continue
                called = isinstance(above[node], ast.Call) and above[node].func is node
                if called:
                    known = node.attr in methods or node.attr in BUILTIN_METHODS or node.attr == "__init__"
                    self.check(known, path, node, f"L25 {node.attr}")
                    if node.attr not in methods:
                        self.check(not above[node].keywords, path, node, "L25")
                else:
                    properties = {"state", "end_moment", "current", "now", "flushed"}
                    is_key = isinstance(above[node], ast.keyword) and above[node].arg == "key"
                    self.check(is_key or node.attr not in methods - properties, path, node, f"L25 {node.attr}")

    def test_l27_strings_and_numbers(self):
        for path, tree in self.each():
            for node in ast.walk(tree):
                if isinstance(node, ast.Constant) and isinstance(node.value, str):
                    self.check("%" not in node.value, path, node, "L27")
                    self.check(not node.value.endswith(("._", ".__")), path, node, "L27")
                if isinstance(node, ast.BinOp) and isinstance(node.op, ast.Pow):
                    exponent = node.right
                    literal = isinstance(exponent, ast.Constant) and 0 <= exponent.value <= 64
                    self.check(literal, path, node, "L27")
            self.assertIsNone(re.search(r"\\[^nt\\'\"]", path.read_text()), f"L27: {path.name}")

    def test_docstrings(self):
        for path, tree in self.each():
            self.assertTrue(ast.get_docstring(tree), path.name)
            for node in [*functions(tree), *classes(tree)]:
                if not node.name.startswith("__"):
                    self.check(ast.get_docstring(node), path, node, "a docstring is missing")


if __name__ == "__main__":
    unittest.main()

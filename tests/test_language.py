"""What a script can see of the rules of LANGUAGE.md, over all files of the package."""

import ast
import builtins
import io
import keyword
import os
import re
import tokenize
import unittest
import warnings

FOLDER = os.path.join(os.path.dirname(os.path.dirname(os.path.abspath(__file__))), "rootsround")

ALLOWED_BUILTINS = set("""
len range enumerate zip min max sum abs sorted reversed int str bool bytes list tuple dict set frozenset isinstance ord
repr any all divmod map iter next super property staticmethod classmethod Exception ValueError TypeError KeyError
IndexError LookupError ZeroDivisionError ArithmeticError OverflowError RuntimeError NotImplementedError AttributeError
StopIteration NotImplemented object
""".split())
BUILTIN_NAMES = {name for name in dir(builtins) if not name.startswith("_")}
BUILTIN_METHODS = set("""
append clear copy count endswith extend find get index insert isalnum isalpha isdigit islower isspace isupper items join
keys ljust lower lstrip partition pop remove replace reverse rfind rjust rpartition rsplit rstrip setdefault split
splitlines startswith strip update upper values zfill bit_length title capitalize swapcase casefold center expandtabs
removeprefix removesuffix rindex isascii isdecimal isnumeric istitle isidentifier isprintable
""".split())
FREE_METHOD_NAMES = set("""
add discard append clear copy count endswith extend find get index insert items join keys lower lstrip partition pop
remove replace reverse setdefault split strip update upper values
""".split())
FREE_ATTRIBUTES = set("count index title find get join lower upper split strip copy add".split())
SPECIAL = set("""
__init__ __eq__ __repr__ __str__ __len__ __enter__ __exit__ __call__ __iter__ __lt__ __le__ __gt__ __ge__ __ne__ __add__
__sub__ __mul__ __floordiv__ __mod__ __pow__ __and__ __or__ __xor__ __lshift__ __rshift__ __radd__ __rsub__ __rmul__
__rfloordiv__ __rmod__ __rand__ __ror__ __rxor__ __neg__ __pos__ __invert__ __abs__ __bool__ __contains__ __getitem__
__setitem__
""".split())
LIBRARY = {"math": {"gcd", "lcm", "isqrt", "comb", "perm", "factorial"},
           "heapq": {"heappush", "heappop", "heapify", "heapreplace", "heappushpop"},
           "itertools": {"product", "combinations", "permutations"}}
NEVER = set("register mro elements open input law version_info with_traceback add_note".split())
NEVER_NAMES = set("""
attrgetter breakpoint builtins compile copyright credits delattr dir eval exec exit gc getattr globals hasattr help id
importlib license locals methodcaller os quit setattr super type vars sys
""".split())
NEVER_WORDS = set("""
type typing typing_extensions enum Enum IntEnum StrEnum Flag IntFlag Generic Protocol ABC ABCMeta namedtuple NamedTuple
TypedDict TYPE_CHECKING abstractmethod
""".split())
BAD_STARTS = ("_wall", "_pe_", "_dcw_", "_enum_", "_cm_", "_twin_re_", "_lay_", "_law_", "_stub_", "_sre", "_WallAttr")
ITERATED = {"zip", "enumerate", "reversed", "range"}
TAKERS = {"list", "tuple", "dict", "sorted", "sum", "any", "all", "enumerate", "zip", "bytes", "min", "max"}
BUILTIN_KINDS = (str, int, list, dict, set, bytes, tuple)
GLUED = re.compile(r"dataclass|overload|contextmanager")


def files():
    """The names of all files of the package, sorted."""
    return sorted(name for name in os.listdir(FOLDER) if name != "__pycache__")


def text_of(name):
    with open(os.path.join(FOLDER, name), encoding="utf-8", newline="") as file:
        return file.read()


TEXTS = {name: text_of(name) for name in files() if name.endswith(".py")}
TREES = {name: ast.parse(text, name) for name, text in TEXTS.items()}
FUNCTIONS = (ast.FunctionDef, ast.AsyncFunctionDef)


def nodes(kind):
    """Tuples (place, node) of all nodes of a kind in the package."""
    for name, tree in TREES.items():
        for node in ast.walk(tree):
            if isinstance(node, kind):
                yield f"{name}:{getattr(node, 'lineno', 0)}", node


def parents(tree):
    return {child: node for node in ast.walk(tree) for child in ast.iter_child_nodes(node)}


def docstrings(tree):
    found = set()
    for node in ast.walk(tree):
        if isinstance(node, (ast.Module, ast.ClassDef) + FUNCTIONS) and ast.get_docstring(node) is not None:
            found.add(node.body[0].value)
    return found


def parameters(function):
    told = function.args
    some = told.posonlyargs + told.args + told.kwonlyargs
    return [one.arg for one in some + [told.vararg, told.kwarg] if one is not None]


def locals_of(function):
    """The names that a function binds, its parameters included."""
    found = set(parameters(function))
    for node in ast.walk(function):
        if isinstance(node, ast.Name) and isinstance(node.ctx, (ast.Store, ast.Del)):
            found.add(node.id)
        if isinstance(node, FUNCTIONS) and node is not function:
            found.add(node.name)
            found.update(parameters(node))
        if isinstance(node, ast.ExceptHandler) and node.name:
            found.add(node.name)
    return found


def module_names(tree):
    """The names bound at module level, one for each binding."""
    found = []
    for node in tree.body:
        if isinstance(node, FUNCTIONS + (ast.ClassDef,)):
            found.append(node.name)
        elif isinstance(node, ast.ImportFrom):
            found += [one.asname or one.name for one in node.names]
        elif isinstance(node, ast.Assign):
            found += [target.id for target in node.targets]
    return found


def classes():
    for name, tree in TREES.items():
        for node in tree.body:
            if isinstance(node, ast.ClassDef):
                yield name, node


def methods_of(node):
    return [one for one in node.body if isinstance(one, FUNCTIONS)]


OWN_METHODS = {one.name for _, node in classes() for one in methods_of(node)}
OWN_ATTRIBUTES = {node.attr for _, node in nodes(ast.Attribute) if isinstance(node.ctx, ast.Store)}


class LanguageTest(unittest.TestCase):
    def flag(self, found):
        self.assertEqual(list(found), [])

    def test_l1_l14_files(self):
        self.assertIn("__init__.py", files())
        self.assertLessEqual(len(files()), 100)
        for name in files():
            self.assertTrue(re.fullmatch(r"[a-z0-9_]+\.py", name), name)
            stem = name[:-3]
            self.assertFalse(stem in BUILTIN_NAMES or keyword.iskeyword(stem) or stem in NEVER_WORDS, name)
            self.assertFalse(stem.startswith(("law_", "test")), name)
            self.assertNotIn(stem, {"site", "conftest", "sitecustomize", "usercustomize", "heapq", "math", "itertools"})

    def test_l10_sizes(self):
        for name, text in TEXTS.items():
            self.assertLessEqual(text.count("\n"), 399, name)
            for line in text.split("\n"):
                self.assertLessEqual(len(line), 120, f"{name}: {line}")
        for place, node in nodes(FUNCTIONS):
            self.assertLessEqual(node.end_lineno - node.lineno + 1, 40, place)

    def test_l14_characters(self):
        for name, text in TEXTS.items():
            self.flag(sorted({sign for sign in text if sign != "\n" and not " " <= sign <= "~"}))

    def test_l2_l16_imports(self):
        reached = {}
        for name, tree in TREES.items():
            reached[name] = set()
            behind = False
            for node in tree.body:
                is_import = isinstance(node, (ast.Import, ast.ImportFrom))
                self.assertFalse(is_import and behind, f"{name}: imports stand at the top")
                behind = behind or not (is_import or isinstance(node, ast.Expr))
            for node in ast.walk(tree):
                self.assertNotIsInstance(node, ast.Import)
                if isinstance(node, ast.ImportFrom):
                    self.check_import(name, node, reached)
        for name in reached:
            self.assertNotIn(name, self.closure(name, reached), "no two files import from each other")

    def check_import(self, name, node, reached):
        self.assertEqual(node.level, 0)
        for one in node.names:
            self.assertIsNone(one.asname)
            if node.module in LIBRARY:
                self.assertIn(one.name, LIBRARY[node.module])
                continue
            package, _, rest = node.module.partition(".")
            self.assertEqual(package, "rootsround")
            self.assertIn(rest + ".py", TREES)
            own = [part.name for part in TREES[rest + ".py"].body if isinstance(part, FUNCTIONS + (ast.ClassDef,))]
            own += [part.targets[0].id for part in TREES[rest + ".py"].body if isinstance(part, ast.Assign)]
            self.assertIn(one.name, own, f"{name} imports {one.name}")
            reached[name].add(rest + ".py")
            used = [part for part in ast.walk(TREES[name]) if isinstance(part, ast.Name) and part.id == one.name]
            self.assertTrue(used, f"{name} imports {one.name} for nothing")

    def closure(self, name, reached):
        found, waiting = set(), list(reached[name])
        while waiting:
            one = waiting.pop()
            if one not in found:
                found.add(one)
                waiting += reached[one]
        return found

    def test_l2_library_names_are_called_alone(self):
        for name, tree in TREES.items():
            told = {one.name for node in tree.body if isinstance(node, ast.ImportFrom) and node.module in LIBRARY
                    for one in node.names}
            called = {node.func for node in ast.walk(tree) if isinstance(node, ast.Call) and not node.keywords}
            for node in ast.walk(tree):
                if isinstance(node, ast.Name) and node.id in told:
                    self.assertIn(node, called, f"{name}: {node.id}")

    def test_l3_module_level(self):
        for name, tree in TREES.items():
            for node in tree.body:
                if isinstance(node, ast.Expr):
                    self.assertIn(node.value, docstrings(tree))
                elif isinstance(node, ast.Assign):
                    self.assertEqual(len(node.targets), 1)
                    self.assertIsInstance(node.targets[0], ast.Name)
                    for part in ast.walk(node.value):
                        kinds = (ast.Constant, ast.Tuple, ast.List, ast.Dict, ast.Load, ast.Name, ast.UnaryOp, ast.USub)
                        self.assertIsInstance(part, kinds, name)
                else:
                    self.assertIsInstance(node, (ast.ImportFrom, ast.FunctionDef, ast.ClassDef), name)

    def test_l4_l5_decorators_defaults_special_methods(self):
        for place, node in nodes(FUNCTIONS):
            self.assertNotIsInstance(node, ast.AsyncFunctionDef)
            for one in node.decorator_list:
                self.assertIsInstance(one, ast.Name, place)
                self.assertIn(one.id, {"property", "classmethod", "staticmethod"})
            for one in node.args.defaults + node.args.kw_defaults:
                self.assertIsInstance(one, ast.Constant, place)
            if node.name.startswith("__"):
                self.assertIn(node.name, SPECIAL, place)
        for name, node in classes():
            self.assertEqual(node.decorator_list, [])
            for one in node.body:
                is_doc = isinstance(one, ast.Expr) and one.value in docstrings(TREES[name])
                self.assertTrue(is_doc or isinstance(one, ast.FunctionDef), f"{name}: {node.name}")

    def test_l6_l7_statements_and_expressions(self):
        barred = (ast.Global, ast.AsyncFor, ast.AsyncWith, ast.Await, ast.AsyncFunctionDef, ast.Set, ast.SetComp,
                  ast.GeneratorExp, ast.Div, ast.MatMult, ast.Yield, ast.YieldFrom, ast.Lambda,
                  ast.NamedExpr, ast.AnnAssign)
        self.flag([place for place, _ in nodes(barred)])
        self.check_stars()
        for place, node in nodes(ast.Constant):
            self.assertNotIsInstance(node.value, (float, complex, bytes), place)
            self.assertIsNot(node.value, Ellipsis, place)

    def check_stars(self):
        """Stars stand in calls of own functions, methods and local variables, over names."""
        called = {part: node for _, node in nodes(ast.Call) for part in node.args if isinstance(part, ast.Starred)}
        for place, node in nodes(ast.Starred):
            self.assertIn(node, called, place)
            self.assertIsInstance(node.value, ast.Name, place)
            self.assertEqual(called[node].keywords, [], place)
            function = called[node].func
            self.assertNotIn(getattr(function, "id", None), BUILTIN_NAMES, place)
        for place, node in nodes(ast.Dict):
            for key, value in zip(node.keys, node.values):
                if key is None:
                    self.assertIsInstance(value, (ast.Name, ast.Attribute), place)

    def test_l7_l27_powers_have_literal_exponents(self):
        for place, node in nodes((ast.BinOp, ast.AugAssign)):
            if isinstance(node.op, ast.Pow):
                self.assertIsInstance(node, ast.BinOp, place)
                self.assertIsInstance(node.right, ast.Constant, place)
                self.assertTrue(0 <= node.right.value <= 64, place)

    def test_l8_l15_builtins(self):
        for name, tree in TREES.items():
            bound = set(module_names(tree))
            for node in ast.walk(tree):
                if isinstance(node, FUNCTIONS):
                    bound |= locals_of(node)
            for one in bound:
                self.assertNotIn(one, BUILTIN_NAMES, f"{name}: {one} is a builtin")
            for node in ast.walk(tree):
                if isinstance(node, ast.Name) and node.id in BUILTIN_NAMES:
                    self.assertIn(node.id, ALLOWED_BUILTINS, name)
                elif isinstance(node, ast.Name) and isinstance(node.ctx, ast.Load):
                    self.assertIn(node.id, bound, name)

    def test_l12_l17_names(self):
        for name, tree in TREES.items():
            attributes = {node.attr for node in ast.walk(tree) if isinstance(node, ast.Attribute)}
            names = set(module_names(tree))
            for node in ast.walk(tree):
                if isinstance(node, FUNCTIONS):
                    names |= locals_of(node) | {node.name}
                if isinstance(node, ast.keyword) and node.arg:
                    attributes.add(node.arg)
            for one in names | attributes:
                if one not in SPECIAL and one != "_":
                    self.assertTrue(re.fullmatch(r"_?[A-Za-z][A-Za-z0-9_]*", one), f"{name}: {one}")
                self.assertFalse(one.startswith(BAD_STARTS), f"{name}: {one}")
                self.assertNotIn(one, NEVER, name)
            self.assertEqual(names & NEVER_NAMES, set(), name)
            self.assertNotRegex(TEXTS[name], r"_wall|_WallAttr")

    def test_l12_the_underscore_is_never_read(self):
        for place, node in nodes(ast.Name):
            self.assertFalse(node.id == "_" and isinstance(node.ctx, ast.Load), place)

    def test_l15_one_binding_for_each_name(self):
        for name, tree in TREES.items():
            bound = module_names(tree)
            self.assertEqual(len(bound), len(set(bound)), name)
            told = {node.name for node in tree.body if isinstance(node, ast.ClassDef)}
            told |= {one.name for node in tree.body if isinstance(node, ast.ImportFrom) for one in node.names}
            for node in ast.walk(tree):
                if isinstance(node, FUNCTIONS):
                    self.assertEqual(locals_of(node) & told, set(), f"{name}:{node.lineno}")

    def test_l17_words(self):
        for name, text in TEXTS.items():
            spared = {id(node) for node in docstrings(TREES[name])}
            lines = {node.lineno for node in ast.walk(TREES[name]) if id(node) in spared}
            for token in tokenize.generate_tokens(io.StringIO(text).readline):
                if token.type == tokenize.COMMENT or (token.type == tokenize.STRING and token.start[0] in lines):
                    continue
                self.assertEqual(set(re.findall(r"\w+", token.string)) & NEVER_WORDS, set(), name)
                self.assertIsNone(GLUED.search(token.string), name)

    def test_l18_l26_own_methods_and_attributes(self):
        taken = {name for kind in BUILTIN_KINDS for name in dir(kind)}
        for name, node in classes():
            names = [one.name for one in methods_of(node)]
            self.assertEqual(len(names), len(set(names)), node.name)
            for one in names:
                self.assertTrue(one in SPECIAL or one in FREE_METHOD_NAMES or one not in taken, f"{name}: {one}")
            stored = {part.attr for part in ast.walk(node)
                      if isinstance(part, ast.Attribute) and isinstance(part.ctx, ast.Store)}
            self.assertEqual(stored & set(names), set(), node.name)
        for one in OWN_ATTRIBUTES:
            self.assertTrue(one in FREE_ATTRIBUTES or one not in taken, one)
        properties = {one.name for _, node in classes() for one in methods_of(node) if one.decorator_list}
        plain = {one.name for _, node in classes() for one in methods_of(node) if not one.decorator_list}
        self.assertEqual(properties & (plain | OWN_ATTRIBUTES), set())

    def test_l18_l25_attributes_that_are_read(self):
        for place, node in nodes(ast.Attribute):
            known = OWN_METHODS | OWN_ATTRIBUTES | BUILTIN_METHODS | SPECIAL
            self.assertIn(node.attr, known, place)
            self.assertFalse(isinstance(node.ctx, ast.Del), place)
        for place, node in nodes(ast.Call):
            if isinstance(node.func, ast.Attribute) and node.func.attr in BUILTIN_METHODS:
                self.assertEqual(node.keywords, [], place)

    def test_l19_errors(self):
        for place, node in nodes(ast.Raise):
            self.assertIsInstance(node.exc, ast.Call, place)
            self.assertIsInstance(node.exc.func, ast.Name, place)
            self.assertEqual(node.exc.keywords, [], place)
            if node.cause is not None:
                self.assertTrue(isinstance(node.cause, ast.Name) or node.cause.value is None, place)
        self.flag([place for place, _ in nodes((ast.TryStar, ast.Match, ast.Nonlocal))])
        own = {node.name for node in TREES["errors.py"].body if isinstance(node, ast.ClassDef)}
        for place, node in nodes(ast.Try):
            self.assertEqual((node.orelse, node.finalbody), ([], []), place)
            for handler in node.handlers:
                kinds = handler.type.elts if isinstance(handler.type, ast.Tuple) else [handler.type]
                self.assertLessEqual({kind.id for kind in kinds}, own, place)
                used = [one for one in ast.walk(handler) if isinstance(one, ast.Name) and one.id == handler.name]
                causes = [one.cause for one in ast.walk(handler) if isinstance(one, ast.Raise)]
                self.assertLessEqual(set(used), set(causes), place)

    def test_l5_l17_a_class_with_items(self):
        for name, node in classes():
            methods = {one.name: one for one in methods_of(node)}
            if "__getitem__" in methods:
                self.assertEqual([one.arg for one in methods["__getitem__"].args.args], ["self", "at"])
                last = methods["__iter__"].body[-1]
                self.assertIsInstance(last, ast.Raise)
                self.assertEqual((last.exc.func.id, len(methods["__iter__"].body)), ("TypeError", 1), name)
        self.assertNotIn("keys", OWN_METHODS | OWN_ATTRIBUTES)
        for name, text in TEXTS.items():
            self.assertNotRegex(text, r"\(type\)|Meta|metaclass=", name)
        for place, node in nodes(ast.Call):
            if isinstance(node.func, ast.Name) and node.func.id == "reversed":
                over = node.args[0]
                is_call = isinstance(over, ast.Call) and over.func.id in {"list", "tuple", "sorted", "range"}
                self.assertTrue(is_call or isinstance(over, (ast.List, ast.Tuple)), place)

    def test_l6_with_and_exit(self):
        own = {node.name: [one.name for one in methods_of(node)] for _, node in classes()}
        for place, node in nodes(ast.With):
            for item in node.items:
                self.assertIn("__enter__", own[item.context_expr.func.id], place)
                self.assertIsInstance(item.optional_vars, ast.Name, place)
        for name, node in classes():
            for method in methods_of(node):
                if method.name == "__exit__":
                    self.assertEqual([one.arg for one in method.args.args], ["self", "kind", "value", "trace"])
                    for row in method.body:
                        self.assertIsInstance(row, ast.Assign, name)
                        self.assertIsInstance(row.value, ast.Attribute, name)
                        self.assertIsInstance(row.targets[0], ast.Attribute, name)

    def test_l20_is(self):
        for place, node in nodes(ast.Compare):
            for sign, right in zip(node.ops, node.comparators):
                if isinstance(sign, (ast.Is, ast.IsNot)):
                    self.assertIsInstance(right, ast.Constant, place)
                    self.assertIn(right.value, (None, True, False), place)

    def test_l22_keywords_and_second_arguments(self):
        for place, node in nodes(ast.Call):
            if not isinstance(node.func, ast.Name) or node.func.id not in BUILTIN_NAMES:
                continue
            allowed = {"sorted": {"key", "reverse"}, "min": {"key", "default"}, "max": {"key", "default"},
                       "sum": {"start"}, "enumerate": {"start"}, "zip": {"strict"}}.get(node.func.id, set())
            for one in node.keywords:
                self.assertIn(one.arg, allowed, place)
            if node.func.id == "isinstance":
                self.assertEqual(len(node.args), 2, place)

    def test_l23_iterated_at_once(self):
        for name, tree in TREES.items():
            above = parents(tree)
            for node in ast.walk(tree):
                if not isinstance(node, ast.Call) or not isinstance(node.func, ast.Name):
                    continue
                if node.func.id not in ITERATED:
                    continue
                over = above[node]
                looped = isinstance(over, (ast.For, ast.comprehension)) and over.iter is node
                taken = isinstance(over, ast.Call) and isinstance(over.func, ast.Name) and over.args[0] is node
                taken = taken and (over.func.id in TAKERS or (over.func.id == "reversed" and node.func.id == "range"))
                self.assertTrue(looped or taken, f"{name}:{node.lineno}")

    def test_l5_operators_and_properties_change_nothing(self):
        plain = {node.name: node for tree in TREES.values() for node in tree.body if isinstance(node, FUNCTIONS)}
        for _, node in classes():
            for method in methods_of(node):
                quiet = method.name in SPECIAL - {"__init__"} or [one for one in method.decorator_list
                                                                   if one.id == "property"]
                if quiet and method.name not in {"__enter__", "__exit__", "__call__"}:
                    self.check_quiet(method, plain, [])

    def check_quiet(self, function, plain, met):
        met.append(function.name)
        for node in ast.walk(function):
            self.assertNotIsInstance(node, (ast.AugAssign, ast.Delete))
            if isinstance(node, (ast.Attribute, ast.Subscript)):
                self.assertIsInstance(node.ctx, ast.Load, function.name)
            if isinstance(node, ast.Call) and isinstance(node.func, ast.Name) and node.func.id in plain:
                if node.func.id not in met:
                    self.check_quiet(plain[node.func.id], plain, met)

    def test_l24_no_sets(self):
        for place, node in nodes(ast.Name):
            self.assertNotIn(node.id, {"set", "frozenset", "bytes", "chr"}, place)

    def test_l27_strings(self):
        for name, tree in TREES.items():
            for node in ast.walk(tree):
                if isinstance(node, ast.Constant) and isinstance(node.value, str):
                    self.assertNotIn("%", node.value, name)
                    self.assertFalse(node.value.endswith(("._", ".__")), name)
                    self.assertFalse(re.match(r"(?s)__.*__$", node.value), name)
            for token in tokenize.generate_tokens(io.StringIO(TEXTS[name]).readline):
                if token.type == tokenize.STRING:
                    self.assertEqual(re.findall(r"\\[^nt\\'\"]", token.string), [], name)

    def test_l27_no_warnings(self):
        for name, text in TEXTS.items():
            with self.subTest(name=name), warnings.catch_warnings():
                warnings.simplefilter("error")
                compile(text, name, "exec", dont_inherit=True)

    def test_l28_special_methods(self):
        for name, node in classes():
            for method in methods_of(node):
                returns = [one for one in ast.walk(method) if isinstance(one, ast.Return)]
                if method.name == "__init__":
                    self.assertEqual(returns, [], f"{name}: {node.name}")
                if method.name in {"__repr__", "__str__", "__len__", "__eq__"}:
                    self.assertIsInstance(method.body[-1], ast.Return)
                    for one in ast.walk(method):
                        self.assertNotIsInstance(one, (ast.Assign, ast.AugAssign, ast.Delete))
                if method.name in {"__repr__", "__str__"}:
                    for one in returns:
                        is_call = isinstance(one.value, ast.Call) and one.value.func.id in {"str", "repr"}
                        self.assertTrue(is_call or isinstance(one.value, (ast.JoinedStr, ast.Constant)))

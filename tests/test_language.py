"""What can be looked up of the rules for the files of the package."""

import ast
import builtins
import re
import unittest
from pathlib import Path

PACKAGE = Path(__file__).resolve().parent.parent / "namesapart"
FILES = sorted(PACKAGE.rglob("*.py"))

METHODS = """append clear copy count endswith extend find get index insert isalnum isalpha isdigit islower isspace isupper
    items join keys ljust lower lstrip partition pop remove replace reverse rfind rjust rpartition rsplit rstrip
    setdefault split splitlines startswith strip update upper values zfill bit_length isascii""".split()
BUILTINS = """len range enumerate zip min max sum abs sorted reversed int str bool list tuple dict set isinstance ord
    repr any all divmod Exception ValueError TypeError KeyError IndexError LookupError property classmethod""".split()
BARRED_NODES = (ast.GeneratorExp, ast.Lambda, ast.Global, ast.Nonlocal, ast.With, ast.AsyncFunctionDef, ast.Await,
                ast.YieldFrom, ast.NamedExpr, ast.Match, ast.AnnAssign, ast.Import, ast.Delete)
BARRED_NAMES = """register mro elements open input law version_info with_traceback add_note attrgetter breakpoint builtins
    compile copyright credits delattr dir eval exec exit gc getattr globals hasattr help id importlib license locals
    methodcaller os quit setattr super type vars sys format hash map iter""".split()

# The methods that the language itself calls, which the document asks for.
OPERATORS = """__add__ __iadd__ __lshift__ __rshift__ __getitem__ __contains__ __iter__ __len__ __bool__ __str__
    __eq__""".split()
CHANGING = "append clear extend insert pop remove reverse setdefault update sort add discard".split()
BARRED_ATTRIBUTES = """items keys values pop update append clear extend insert remove reverse setdefault sort args encode
    decode hex fromhex format mro as_integer_ratio bit_count conjugate from_bytes is_integer to_bytes""".split()
BARRED_WORDS = """type typing typing_extensions enum Enum IntEnum StrEnum Flag IntFlag Generic Protocol ABC ABCMeta
    namedtuple NamedTuple TypedDict TYPE_CHECKING abstractmethod""".split()


def sources():
    return [(path.name, path.read_text(encoding="utf-8")) for path in FILES]


def parsed():
    return [(name, ast.parse(text)) for name, text in sources()]


def functions_in(tree):
    return [node for node in ast.walk(tree) if isinstance(node, ast.FunctionDef)]


def imported_names(tree):
    return [alias.name for node in tree.body if isinstance(node, ast.ImportFrom) for alias in node.names]


def bound_names(node):
    """The names that a function binds: parameters and targets."""
    found = [argument.arg for argument in node.args.args]
    return found + [inner.id for inner in ast.walk(node) if isinstance(inner, ast.Name) and isinstance(inner.ctx, ast.Store)]


class Language(unittest.TestCase):
    def test_sizes_and_characters(self):
        for name, text in sources():
            self.assertLessEqual(len(text.splitlines()), 399, name)
            for line in text.split("\n"):
                self.assertLessEqual(len(line), 120, (name, line))
                self.assertTrue(all([" " <= sign <= "~" for sign in line]), (name, line))
        for name, tree in parsed():
            for node in functions_in(tree):
                self.assertLessEqual(node.end_lineno - node.lineno + 1, 40, (name, node.name))

    def test_nothing_else_is_in_the_folder(self):
        for path in PACKAGE.rglob("*"):
            if path.name != "__pycache__" and path.parent.name != "__pycache__":
                self.assertRegex(path.name, r"^[a-z0-9_]+\.py$")

    def test_barred_statements_and_expressions(self):
        for name, tree in parsed():
            for node in ast.walk(tree):
                self.assertNotIsInstance(node, BARRED_NODES, (name, getattr(node, "lineno", 0)))
                if isinstance(node, (ast.FunctionDef, ast.ClassDef)):
                    told = [word.id for word in node.decorator_list]
                    self.assertIn(told, ([], ["property"], ["classmethod"]), node.name)
                    self.assertTrue(ast.get_docstring(node) or node.name in ("__init__", "__iter__"), node.name)
                if isinstance(node, ast.Constant):
                    self.assertNotIsInstance(node.value, (float, bytes, complex))
                    if isinstance(node.value, str):
                        self.assertNotIn("%", node.value)
                self.assertFalse(isinstance(node, ast.BinOp) and isinstance(node.op, ast.Div))

    def test_module_level(self):
        for name, tree in parsed():
            bound = imported_names(tree)
            for at, node in enumerate(tree.body):
                self.assertIsInstance(node, (ast.Expr, ast.ImportFrom, ast.FunctionDef, ast.ClassDef, ast.Assign), name)
                if isinstance(node, ast.Expr):
                    self.assertEqual(at, 0)
                if isinstance(node, (ast.FunctionDef, ast.ClassDef)):
                    bound.append(node.name)
                if isinstance(node, ast.Assign):
                    bound.append(node.targets[0].id)
                    self.assertEqual(len(node.targets), 1)
                    for inner in ast.walk(node.value):
                        self.assertNotIsInstance(inner, (ast.Call, ast.ListComp, ast.SetComp, ast.DictComp, ast.Set))
            self.assertEqual(len(bound), len(set(bound)), name)

    def test_imports(self):
        homes = {}
        for name, tree in parsed():
            for node in tree.body:
                if isinstance(node, (ast.FunctionDef, ast.ClassDef)):
                    homes.setdefault(node.name, []).append(name)
                if isinstance(node, ast.Assign):
                    homes.setdefault(node.targets[0].id, []).append(name)
        needed = {}
        for name, tree in parsed():
            for node in ast.walk(tree):
                if isinstance(node, ast.ImportFrom):
                    self.assertRegex(node.module, r"^namesapart\.[a-z]+$")
                    home = node.module.split(".")[1] + ".py"
                    needed.setdefault(name, []).append(home)
                    for alias in node.names:
                        self.assertIsNone(alias.asname)
                        self.assertIn(home, homes[alias.name], (name, alias.name))
        order = []
        while len(order) < len(FILES):
            ready = [path.name for path in FILES if path.name not in order and set(needed.get(path.name, [])) <= set(order)]
            self.assertTrue(ready, "files import from each other")
            order.extend(ready)

    def test_imports_are_used(self):
        for name, tree in parsed():
            used = {node.id for node in ast.walk(tree) if isinstance(node, ast.Name)}
            for told in imported_names(tree):
                self.assertIn(told, used, name)

    def test_names(self):
        known = set(dir(builtins)) - {"_"}
        for name, tree in parsed():
            outer = set(imported_names(tree)) | {node.name for node in tree.body if hasattr(node, "name")}
            self.assertNotIn("next", outer)
            for node in functions_in(tree):
                self.assertFalse(set(bound_names(node)) & (known | outer), (name, node.name))
                for told in bound_names(node) + [node.name]:
                    self.assertNotIn(told, BARRED_NAMES, name)
                    self.assertTrue(re.match(r"^(_|[a-z][a-z0-9_]*)$", told) or told in OPERATORS + ["__init__"], told)
                    self.assertFalse(told.startswith(("_wall", "_pe_")))
            for node in ast.walk(tree):
                if isinstance(node, ast.Name) and isinstance(node.ctx, ast.Load):
                    self.assertNotEqual(node.id, "_", name)

    def test_builtins_and_methods(self):
        known = set(dir(builtins)) - {"_"}
        own = {node.name for _, tree in parsed() for node in ast.walk(tree) if isinstance(node, (ast.FunctionDef, ast.ClassDef))}
        for name, tree in parsed():
            for node in ast.walk(tree):
                if isinstance(node, ast.Name) and node.id in known:
                    self.assertIn(node.id, BUILTINS, name)
                if isinstance(node, ast.Call):
                    if isinstance(node.func, ast.Attribute):
                        self.assertIn(node.func.attr, METHODS + sorted(own), name)
                    else:
                        # What is called is known by name: nothing that was passed on is called, but by attempt.
                        self.assertIn(node.func.id, own | known | {"action", "cls"}, name)

    def test_tries(self):
        """Own errors are caught, by name; what comes at last only assigns names to attributes, asked by "is None"."""
        own = {node.name for name, tree in parsed() if name == "errors.py" for node in tree.body if hasattr(node, "name")}
        for name, tree in parsed():
            for node in ast.walk(tree):
                if not isinstance(node, ast.Try):
                    continue
                for handler in node.handlers:
                    told = handler.type.elts if isinstance(handler.type, ast.Tuple) else [handler.type]
                    self.assertLessEqual({word.id for word in told}, own, name)
                for step in node.finalbody:
                    self.assertIsInstance(step, ast.If)
                    self.assertRegex(ast.unparse(step.test), r"^[a-z]+ is None$")
                    for inner in step.body:
                        self.assertRegex(ast.unparse(inner), r"^self\._[a-z]+ = [a-z]+$")

    def test_yields(self):
        found = [(name, node.name) for name, tree in parsed() for node in functions_in(tree)
                 if any(isinstance(inner, ast.Yield) for inner in ast.walk(node))]
        self.assertEqual(found, [("lifebenches.py", "lines")])
        names = [node.name for _, tree in parsed() for node in functions_in(tree)]
        self.assertEqual(names.count("lines"), 1)

    def test_names_of_generators_and_of_decorated_methods_are_no_others(self):
        """No attribute that is stored, and nothing else that is called or defined, has such a name."""
        told, defined, stored, called = [], [], [], []
        for _, tree in parsed():
            for node in ast.walk(tree):
                if isinstance(node, ast.FunctionDef):
                    defined.append(node.name)
                    if node.decorator_list or any(isinstance(inner, ast.Yield) for inner in ast.walk(node)):
                        told.append(node.name)
                if isinstance(node, ast.Attribute) and isinstance(node.ctx, ast.Store):
                    stored.append(node.attr)
                if isinstance(node, ast.Call) and isinstance(node.func, ast.Name):
                    called.append(node.func.id)
        self.assertEqual(sorted(set(told)), ["journey", "lines", "makings", "next", "read", "tree"])
        self.assertEqual(set(told) & set(stored), set())
        self.assertEqual(set(told) & set(called), set())
        # Those that are told twice are properties of two classes.
        self.assertEqual([name for name in defined if name in told and told.count(name) != defined.count(name)], [])
        self.assertEqual(told.count("lines") + told.count("read"), 2)

    def test_no_attribute_has_the_name_of_a_function_or_method(self):
        defined = {node.name for _, tree in parsed() for node in functions_in(tree)}
        for name, tree in parsed():
            for node in ast.walk(tree):
                if isinstance(node, ast.Attribute) and isinstance(node.ctx, ast.Store):
                    self.assertNotIn(node.attr, defined, name)

    def test_operators_and_properties_change_nothing(self):
        homes = {}
        for name, tree in parsed():
            for node in tree.body:
                if isinstance(node, (ast.FunctionDef, ast.ClassDef)):
                    homes[(name, node.name)] = node
                if isinstance(node, ast.ClassDef):
                    homes.update({(name, inner.name): inner for inner in functions_in(node) if inner.name == "__init__"})
        todo = []
        for name, tree in parsed():
            for node in functions_in(tree):
                is_property = [word.id for word in node.decorator_list] == ["property"]
                if is_property or node.name in OPERATORS and node.name not in ("__iadd__", "__iter__"):
                    todo.append((name, node))
        self.assertEqual(len(todo), 4 + 9 + 3 + 3)
        seen = []
        trees = dict(parsed())
        while todo:
            name, node = todo.pop()
            if (name, node.name) in seen and node.name not in OPERATORS:
                continue
            seen.append((name, node.name))
            self.check_pure(name, node)
            imported = {alias.name: one.module.split(".")[1] + ".py" for one in trees[name].body
                        if isinstance(one, ast.ImportFrom) for alias in one.names}
            for inner in ast.walk(node):
                if isinstance(inner, ast.Call) and isinstance(inner.func, ast.Name):
                    home = (imported.get(inner.func.id, name), inner.func.id)
                    if isinstance(homes.get(home), ast.ClassDef):
                        home = (home[0], "__init__")
                    if home in homes:
                        todo.append((home[0], homes[home]))
        self.assertGreater(len(seen), 50)

    def check_pure(self, name, node):
        """Changes nothing but lists and the like that it creates itself."""
        told = (name, node.name)
        made = {}
        for inner in ast.walk(node):
            self.assertNotIsInstance(inner, (ast.AugAssign, ast.Delete, ast.Yield, ast.Lambda, ast.Nonlocal), told)
            if isinstance(inner, ast.Assign) and isinstance(inner.targets[0], ast.Name):
                fresh = isinstance(inner.value, (ast.List, ast.ListComp, ast.Dict, ast.DictComp)) or (
                    isinstance(inner.value, ast.Call) and ast.unparse(inner.value.func) in ("list", "dict", "sorted"))
                made.setdefault(inner.targets[0].id, []).append(fresh)
        for inner in ast.walk(node):
            if isinstance(inner, ast.Attribute) and isinstance(inner.ctx, ast.Store):
                self.assertEqual(node.name, "__init__", told)
            changed = None
            if isinstance(inner, ast.Subscript) and isinstance(inner.ctx, ast.Store):
                changed = inner.value
            if isinstance(inner, ast.Call) and isinstance(inner.func, ast.Attribute) and inner.func.attr in CHANGING:
                changed = inner.func.value
            if changed is not None:
                self.assertIsInstance(changed, ast.Name, told)
                self.assertTrue(made.get(changed.id) and all(made[changed.id]), told)

    def test_attributes(self):
        for name, tree in parsed():
            for node in ast.walk(tree):
                if isinstance(node, ast.Attribute) and isinstance(node.ctx, ast.Store):
                    self.assertNotIn(node.attr, BARRED_ATTRIBUTES, name)
                    self.assertIsInstance(node.value, ast.Name)
                if isinstance(node, ast.ClassDef):
                    methods = [inner.name for inner in node.body if isinstance(inner, ast.FunctionDef)]
                    self.assertEqual(len(methods), len(set(methods)))
                    self.assertFalse(set(methods) & set(METHODS + BARRED_ATTRIBUTES), (name, node.name))

    def test_barred_words(self):
        for name, tree in parsed():
            for node in ast.walk(tree):
                if isinstance(node, ast.Name):
                    self.assertNotIn(node.id, BARRED_WORDS)
                if isinstance(node, ast.Constant) and isinstance(node.value, str):
                    self.assertFalse(set(re.findall(r"\w+", node.value)) & (set(BARRED_WORDS) - {"type"}), name)

    def test_sets_are_only_looked_at(self):
        for name, tree in parsed():
            parents = {id(kid): node for node in ast.walk(tree) for kid in ast.iter_child_nodes(node)}
            for node in ast.walk(tree):
                is_set = isinstance(node, (ast.Set, ast.SetComp)) or (
                    isinstance(node, ast.Call) and isinstance(node.func, ast.Name) and node.func.id == "set")
                if is_set:
                    above = parents[id(node)]
                    if isinstance(above, ast.BinOp):
                        above = parents[id(above)]
                    self.assertIsInstance(above, ast.Call, (name, node.lineno))
                    self.assertIn(above.func.id, ("sorted", "len"), (name, node.lineno))

    def test_zips_and_the_like_are_iterated_at_once(self):
        for name, tree in parsed():
            parents = {id(kid): node for node in ast.walk(tree) for kid in ast.iter_child_nodes(node)}
            for node in ast.walk(tree):
                if isinstance(node, ast.Call) and isinstance(node.func, ast.Name) and node.func.id in ("zip", "enumerate", "range"):
                    above = parents[id(node)]
                    if isinstance(above, ast.Call):
                        self.assertIn(above.func.id, ("list", "tuple", "enumerate", "sorted"), (name, node.lineno))
                    else:
                        self.assertIsInstance(above, (ast.For, ast.comprehension), (name, node.lineno))


if __name__ == "__main__":
    unittest.main()

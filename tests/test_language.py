"""The files of the package keep to the rules of LANGUAGE.md that a reader of trees can see."""

import ast
import builtins
import os
import unittest

ROOT = os.path.dirname(os.path.dirname(os.path.abspath(__file__)))
PACKAGE = os.path.join(ROOT, "anymaker")
ORDER = (
    "errors words expressions programs documents choices makers placing stepping runs nexts pieces bases tables "
    "rewriting covering meanings anywhere lots comings sheets goals ways departs remains ruins terms befores sureness "
    "guards aheads freeds machines labellings troubles steadies blames borders groupings pinning forcing pintrees "
    "leastpins shaking everywhere grades asking outcomes contracts ends traces exchanges deals plains telling keeping "
    "homing playing blindness sharing reading writing endings patches others desk"
).split()
BUILTINS = (
    "len range enumerate zip min max sum abs sorted reversed int str bool list tuple dict set isinstance ord repr "
    "any all divmod ValueError KeyError"
).split()
METHODS = (
    "append clear copy count endswith extend find get index insert isalnum isalpha isdigit islower isspace isupper "
    "items join keys ljust lower lstrip partition pop remove replace reverse rfind rjust rpartition rsplit rstrip "
    "setdefault split splitlines startswith strip update upper values zfill bit_length"
).split()
BARRED = (
    "register mro elements open input law version_info with_traceback add_note attrgetter breakpoint builtins compile "
    "copyright credits delattr dir eval exec exit gc getattr globals hasattr help id importlib license locals "
    "methodcaller os quit setattr super type vars sys"
).split()
WORDS = (
    "type typing typing_extensions enum Enum IntEnum StrEnum Flag IntFlag Generic Protocol ABC ABCMeta namedtuple "
    "NamedTuple TypedDict TYPE_CHECKING abstractmethod"
).split()
VIEWS = ("zip", "enumerate", "reversed", "items", "keys", "values")
TAKERS = ("list", "tuple", "dict", "sorted", "sum", "any", "all", "enumerate", "zip", "min", "max")


def sources():
    for name in sorted(os.listdir(PACKAGE)):
        if name.endswith(".py"):
            with open(os.path.join(PACKAGE, name), encoding="utf-8") as file:
                text = file.read()
            yield name, text, ast.parse(text)


def assigned_names(tree):
    """All names of parameters, variables, functions and classes, with their lines."""
    for node in ast.walk(tree):
        if isinstance(node, ast.Name) and isinstance(node.ctx, ast.Store):
            yield node.id, node.lineno
        elif isinstance(node, ast.arg):
            yield node.arg, node.lineno
        elif isinstance(node, (ast.FunctionDef, ast.ClassDef)):
            yield node.name, node.lineno


def parents_of(tree):
    found = {}
    for node in ast.walk(tree):
        for child in ast.iter_child_nodes(node):
            found[child] = node
    return found


def called(node):
    if isinstance(node, ast.Call) and isinstance(node.func, ast.Name):
        return node.func.id
    if isinstance(node, ast.Call) and isinstance(node.func, ast.Attribute):
        return node.func.attr
    return None


class LanguageTest(unittest.TestCase):
    def test_folder(self):
        for name in os.listdir(PACKAGE):
            if name == "__pycache__":
                continue
            self.assertRegex(name, r"^(__init__|[a-z][a-z0-9_]*)\.py$")

    def test_sizes_and_signs(self):
        for name, text, tree in sources():
            lines = text.split("\n")
            self.assertLess(len(lines), 400, name)
            for at, line in enumerate(lines, 1):
                self.assertLessEqual(len(line), 120, f"{name}:{at}")
                self.assertTrue(all(" " <= sign <= "~" for sign in line), f"{name}:{at}")
            for node in ast.walk(tree):
                if isinstance(node, ast.FunctionDef):
                    self.assertLessEqual(node.end_lineno - node.lineno + 1, 40, f"{name}:{node.name}")

    def test_imports(self):
        for name, _, tree in sources():
            own = name[:-3]
            for node in tree.body:
                if isinstance(node, ast.Import):
                    self.fail(f"{name}: import")
                if isinstance(node, ast.ImportFrom):
                    self.assertEqual(node.level, 0)
                    self.assertTrue(node.module.startswith("anymaker."), name)
                    other = node.module.split(".")[1]
                    with open(os.path.join(PACKAGE, other + ".py"), encoding="utf-8") as file:
                        told = {one for one, _ in assigned_names(ast.parse(file.read()))}
                    for alias in node.names:
                        self.assertIsNone(alias.asname)
                        self.assertIn(alias.name, told, name)
                    if own in ORDER and other in ORDER:
                        self.assertLess(ORDER.index(other), ORDER.index(own), name)

    def test_imports_have_no_rounds(self):
        behind = {}
        for name, _, tree in sources():
            behind[name[:-3]] = [n.module.split(".")[1] for n in tree.body if isinstance(n, ast.ImportFrom)]
        while behind:
            free = [name for name in behind if not [other for other in behind[name] if other in behind]]
            self.assertTrue(free, behind)
            for name in free:
                del behind[name]

    def test_all_imports_are_used(self):
        for name, _, tree in sources():
            used = {node.id for node in ast.walk(tree) if isinstance(node, ast.Name)}
            for node in tree.body:
                if isinstance(node, ast.ImportFrom):
                    for alias in node.names:
                        self.assertIn(alias.name, used, name)

    def test_names(self):
        for name, _, tree in sources():
            imported = [a.name for n in tree.body if isinstance(n, ast.ImportFrom) for a in n.names]
            classes = [n.name for n in tree.body if isinstance(n, ast.ClassDef)]
            methods = {m for n in tree.body if isinstance(n, ast.ClassDef) for m in n.body}
            for word, line in assigned_names(tree):
                self.assertNotIn(word, BARRED, f"{name}:{line}")
                if not any(isinstance(m, ast.FunctionDef) and m.name == word for m in methods):
                    self.assertFalse(hasattr(builtins, word), f"{name}:{line}: {word}")
                self.assertNotIn(word, imported, f"{name}:{line}")
                self.assertLessEqual(classes.count(word), 1)
                if word.startswith("_"):
                    self.assertIn(word, ("_", "__init__"), f"{name}:{line}")
            top = [n.name for n in tree.body if isinstance(n, (ast.FunctionDef, ast.ClassDef))]
            top += [t.id for n in tree.body if isinstance(n, ast.Assign) for t in n.targets] + imported
            self.assertEqual(len(top), len(set(top)), name)
            for node in ast.walk(tree):
                if isinstance(node, ast.Name) and isinstance(node.ctx, ast.Load):
                    self.assertNotEqual(node.id, "_", name)
                    if hasattr(builtins, node.id):
                        self.assertIn(node.id, BUILTINS, f"{name}:{node.lineno}")

    def test_words(self):
        for name, _, tree in sources():
            docs = {id(n.body[0].value) for n in ast.walk(tree)
                    if isinstance(n, (ast.Module, ast.FunctionDef, ast.ClassDef)) and ast.get_docstring(n)}
            for node in ast.walk(tree):
                if isinstance(node, ast.Constant) and isinstance(node.value, str):
                    self.assertNotIn("%", node.value)
                    if id(node) not in docs:
                        self.assertFalse([word for word in node.value.split() if word in WORDS], name)
                if isinstance(node, ast.Constant):
                    self.assertNotIsInstance(node.value, float)
                if isinstance(node, ast.Name):
                    self.assertNotIn(node.id, WORDS)

    def test_statements(self):
        barred = (ast.Global, ast.AsyncFunctionDef, ast.Div, ast.MatMult, ast.Pow, ast.Starred, ast.AnnAssign,
                  ast.Yield, ast.YieldFrom, ast.NamedExpr, ast.GeneratorExp, ast.With, ast.Match)
        for name, _, tree in sources():
            for node in ast.walk(tree):
                self.assertNotIsInstance(node, barred, f"{name}:{getattr(node, 'lineno', 0)}")
                if isinstance(node, (ast.FunctionDef, ast.ClassDef)):
                    self.assertEqual(node.decorator_list, [])
                if isinstance(node, ast.Compare):
                    for op, right in zip(node.ops, node.comparators):
                        if isinstance(op, (ast.Is, ast.IsNot)):
                            self.assertIsInstance(right, ast.Constant, f"{name}:{node.lineno}")
                if isinstance(node, ast.Raise):
                    self.assertIsInstance(node.exc, ast.Call, f"{name}:{node.lineno}")

    def test_own_errors_alone_are_caught(self):
        own = {node.name for name, _, tree in sources() if name == "errors.py" for node in tree.body if isinstance(node, ast.ClassDef)}
        for name, _, tree in sources():
            for node in ast.walk(tree):
                if isinstance(node, ast.ExceptHandler):
                    self.assertIsNone(node.name, name)
                    self.assertIsInstance(node.type, ast.Name, name)
                    self.assertIn(node.type.id, own, name)

    def test_tables_of_functions_are_not_called_straight(self):
        for name, _, tree in sources():
            for node in ast.walk(tree):
                if isinstance(node, ast.Call):
                    self.assertNotIsInstance(node.func, ast.Subscript, f"{name}:{node.lineno}")

    def test_methods_and_keywords(self):
        own = set()
        for _, _, tree in sources():
            for node in tree.body:
                if isinstance(node, ast.ClassDef):
                    own |= {m.name for m in node.body if isinstance(m, ast.FunctionDef)}
        for name, _, tree in sources():
            for node in ast.walk(tree):
                if isinstance(node, ast.Call) and isinstance(node.func, ast.Attribute):
                    self.assertTrue(node.func.attr in METHODS or node.func.attr in own, f"{name}:{node.lineno}")
                fine = (("sorted", "key"), ("enumerate", "start"), ("min", "key"), ("max", "default"), ("min", "default"))
                if isinstance(node, ast.Call):
                    for keyword in node.keywords:
                        self.assertIn((called(node), keyword.arg), fine, name)

    def test_methods_are_no_attributes(self):
        for name, _, tree in sources():
            for node in tree.body:
                if isinstance(node, ast.ClassDef):
                    methods = [m.name for m in node.body if isinstance(m, ast.FunctionDef)]
                    kept = [n.attr for n in ast.walk(node)
                            if isinstance(n, ast.Attribute) and isinstance(n.ctx, ast.Store)]
                    self.assertEqual(len(methods), len(set(methods)), name)
                    self.assertFalse(set(methods) & set(kept), name)
                    self.assertFalse(set(kept) & set(METHODS + ["sort", "args", "encode", "decode", "hex", "format"]), name)
                    for method in methods:
                        for value in ("", 1, [], {}, set(), b""):
                            self.assertFalse(method != "__init__" and hasattr(value, method), f"{name}: {method}")

    def test_no_name_is_a_method_here_and_an_attribute_there(self):
        methods, kept = set(), set()
        for name, _, tree in sources():
            for node in tree.body:
                if isinstance(node, ast.ClassDef):
                    methods |= {n.name for n in node.body if isinstance(n, ast.FunctionDef)}
                    kept |= {n.attr for n in ast.walk(node) if isinstance(n, ast.Attribute) and isinstance(n.ctx, ast.Store)}
        self.assertEqual(methods & kept, set())

    def test_views_are_iterated_at_once(self):
        for name, _, tree in sources():
            parents = parents_of(tree)
            for node in ast.walk(tree):
                if called(node) in VIEWS and (isinstance(node.func, ast.Name) or not node.args):
                    above = parents[node]
                    fine = isinstance(above, (ast.For, ast.comprehension)) and above.iter is node
                    kept = isinstance(above, ast.Assign)
                    self.assertTrue(fine or kept or called(above) in TAKERS, f"{name}:{node.lineno}")

    def test_sets_are_used_at_once(self):
        for name, _, tree in sources():
            parents = parents_of(tree)
            for node in ast.walk(tree):
                if called(node) == "set" or isinstance(node, (ast.Set, ast.SetComp)):
                    self.assertIn(called(parents[node]), ("sorted", "len"), f"{name}:{node.lineno}")

    def test_what_is_iterated_is_not_changed(self):
        changing = ("append", "extend", "pop", "clear", "insert", "remove", "setdefault", "update")
        for name, _, tree in sources():
            for loop in ast.walk(tree):
                if isinstance(loop, ast.For):
                    head = {ast.unparse(n) for n in ast.walk(loop.iter) if isinstance(n, (ast.Name, ast.Attribute))}
                    for node in [n for row in loop.body for n in ast.walk(row)]:
                        if called(node) in changing and isinstance(node.func, ast.Attribute):
                            self.assertNotIn(ast.unparse(node.func.value), head, f"{name}:{node.lineno}")

    def test_docstrings(self):
        for name, _, tree in sources():
            self.assertTrue(ast.get_docstring(tree), name)

    def test_init_defines_nothing(self):
        for name, _, tree in sources():
            if name == "__init__.py":
                self.assertEqual(len(tree.body), 1)

    def test_module_level(self):
        for name, _, tree in sources():
            for node in tree.body:
                fine = (ast.ImportFrom, ast.FunctionDef, ast.ClassDef, ast.Assign, ast.Expr)
                self.assertIsInstance(node, fine, name)
                if isinstance(node, ast.Assign):
                    self.assertEqual(len(node.targets), 1)
                    functions = {n.name for n in tree.body if isinstance(n, ast.FunctionDef) and n.lineno < node.lineno}
                    for inner in ast.walk(node.value):
                        self.assertNotIsInstance(inner, (ast.Call, ast.ListComp, ast.DictComp), name)
                        if isinstance(inner, ast.Name):
                            self.assertIn(inner.id, functions, f"{name}:{node.lineno}")


if __name__ == "__main__":
    unittest.main()

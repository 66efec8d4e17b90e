"""The form of the code: what can be seen of the rules for the language without running it."""

import ast
import builtins
import pathlib
import unittest

ROOT = pathlib.Path(__file__).resolve().parent.parent
PACKAGE = ROOT / "unbent"

BUILTINS = set(
    "len range enumerate zip min max sum abs sorted reversed int str bool bytes list tuple dict set isinstance ord"
    " repr any all divmod property super pow Exception ValueError TypeError KeyError IndexError LookupError"
    " ZeroDivisionError True False None".split())

METHODS = set(
    "append clear copy count endswith extend find get index insert isalnum isalpha isdigit islower isspace isupper"
    " items join keys ljust lower lstrip partition pop remove replace reverse rfind rjust rpartition rsplit rstrip"
    " setdefault split splitlines startswith strip update upper values zfill bit_length removeprefix removesuffix"
    .split())

LIBRARY = {"math": {"gcd", "lcm", "factorial"}, "itertools": {"permutations"}}

NEVER = set(
    "register mro elements open input law version_info with_traceback add_note attrgetter breakpoint compile copyright"
    " credits delattr dir eval exec exit gc globals help id importlib license locals methodcaller os quit vars sys"
    .split())

WORDS = set(
    "type typing typing_extensions enum Enum IntEnum StrEnum Flag Generic Protocol ABC ABCMeta namedtuple NamedTuple"
    " TypedDict abstractmethod _wall _WallAttr".split())

STATEMENTS = (
    ast.Assign, ast.AugAssign, ast.If, ast.While, ast.For, ast.Return, ast.Break, ast.Continue, ast.Pass, ast.Raise,
    ast.Try, ast.Expr, ast.Delete, ast.FunctionDef, ast.ClassDef, ast.ImportFrom,
)

FORBIDDEN = (
    ast.Div, ast.Lambda, ast.AsyncFunctionDef, ast.Global, ast.Yield, ast.YieldFrom, ast.Await, ast.Set, ast.SetComp,
    ast.NamedExpr, ast.MatMult,
)


def files():
    return sorted(PACKAGE.rglob("*.py"))


def trees():
    for path in files():
        yield path, ast.parse(path.read_text(encoding="utf-8"))


def bound_names(tree):
    """All names that a file gives to something."""
    for node in ast.walk(tree):
        if isinstance(node, ast.Name) and isinstance(node.ctx, ast.Store):
            yield node.id
        elif isinstance(node, (ast.FunctionDef, ast.ClassDef)):
            yield node.name
        elif isinstance(node, ast.arg):
            yield node.arg
        elif isinstance(node, ast.ExceptHandler) and node.name:
            yield node.name


def imported_names(tree):
    return [alias.name for node in tree.body if isinstance(node, ast.ImportFrom) for alias in node.names]


class Files(unittest.TestCase):
    def test_the_package_holds_nothing_else(self):
        found = [path for path in PACKAGE.rglob("*") if "__pycache__" not in path.parts]
        self.assertEqual([path for path in found if path.suffix != ".py"], [])

    def test_sizes_and_characters(self):
        for path in files():
            text = path.read_bytes().decode("ascii")
            lines = text.split("\n")
            self.assertLess(len(lines) - 1, 400, path)
            for line in lines:
                self.assertLessEqual(len(line), 120, (path, line))
                self.assertTrue(all(" " <= letter <= "~" for letter in line), (path, line))

    def test_functions_have_at_most_40_lines(self):
        for path, tree in trees():
            for node in ast.walk(tree):
                if isinstance(node, ast.FunctionDef):
                    self.assertLessEqual(node.end_lineno - node.lineno + 1, 40, (path, node.name))


class Imports(unittest.TestCase):
    def test_forms(self):
        for path, tree in trees():
            for node in ast.walk(tree):
                self.assertNotIsInstance(node, ast.Import, path)
                if isinstance(node, ast.ImportFrom):
                    self.assertIn(node, tree.body)
                    self.assertEqual(node.level, 0)
                    names = {alias.name for alias in node.names}
                    self.assertTrue(all(alias.asname is None for alias in node.names), path)
                    if node.module in LIBRARY:
                        self.assertLessEqual(names, LIBRARY[node.module], path)
                    else:
                        self.check_own(path, node.module, names)

    def check_own(self, path, module, names):
        self.assertTrue(module.startswith("unbent."), (path, module))
        source = ast.parse((ROOT / (module.replace(".", "/") + ".py")).read_text())
        defined = {node.name for node in source.body if isinstance(node, (ast.FunctionDef, ast.ClassDef))}
        for node in source.body:
            if isinstance(node, ast.Assign):
                defined.update(target.id for target in node.targets)
        self.assertLessEqual(names, defined, (path, module))

    def test_no_circles(self):
        needs = {}
        for path, tree in trees():
            modules = {node.module for node in tree.body if isinstance(node, ast.ImportFrom)}
            needs["unbent." + path.stem] = {module for module in modules if module.startswith("unbent.")}
        done = set()
        while len(done) < len(needs):
            ready = {module for module in needs if module not in done and needs[module] <= done}
            self.assertTrue(ready, "modules that import each other")
            done |= ready

    def test_every_import_is_used(self):
        for path, tree in trees():
            used = {node.id for node in ast.walk(tree) if isinstance(node, ast.Name)}
            self.assertEqual([name for name in imported_names(tree) if name not in used], [], path)


class Code(unittest.TestCase):
    def test_statements(self):
        for path, tree in trees():
            for node in ast.walk(tree):
                self.assertNotIsInstance(node, FORBIDDEN, (path, getattr(node, "lineno", None)))
                if isinstance(node, ast.stmt):
                    self.assertIsInstance(node, STATEMENTS, (path, node.lineno))
                if isinstance(node, (ast.FunctionDef, ast.ClassDef)):
                    names = [ast.unparse(decorator) for decorator in node.decorator_list]
                    self.assertIn(names, ([], ["property"]), (path, node.lineno))
                if isinstance(node, ast.Constant):
                    self.assertNotIsInstance(node.value, (float, complex), (path, node.lineno))

    def test_module_level(self):
        allowed = (ast.Assign, ast.FunctionDef, ast.ClassDef, ast.ImportFrom)
        for path, tree in trees():
            for at, node in enumerate(tree.body):
                if at == 0 and isinstance(node, ast.Expr) and isinstance(node.value, ast.Constant):
                    continue
                self.assertIsInstance(node, allowed, (path, node.lineno))
                if isinstance(node, ast.Assign):
                    self.assertEqual(len(node.targets), 1)
                    ast.literal_eval(node.value)

    def test_is_stands_beside_none_only(self):
        for path, tree in trees():
            for node in ast.walk(tree):
                if isinstance(node, ast.Compare):
                    for operator, right in zip(node.ops, node.comparators):
                        if isinstance(operator, (ast.Is, ast.IsNot)):
                            self.assertTrue(isinstance(right, ast.Constant) and right.value in (None, True, False))

    def test_builtins_and_methods(self):
        own = {node.name for _, tree in trees() for node in ast.walk(tree) if isinstance(node, ast.FunctionDef)}
        for path, tree in trees():
            names = set(bound_names(tree)) | set(imported_names(tree)) | BUILTINS
            for node in ast.walk(tree):
                if isinstance(node, ast.Name) and isinstance(node.ctx, ast.Load):
                    self.assertIn(node.id, names, (path, node.lineno))
                if isinstance(node, ast.Call) and isinstance(node.func, ast.Attribute):
                    self.assertIn(node.func.attr, METHODS | own | {"__init__"}, (path, node.lineno))

    def test_only_errors_of_the_program_are_raised_and_caught(self):
        for path, tree in trees():
            names = imported_names(tree)
            for node in ast.walk(tree):
                if isinstance(node, ast.Raise):
                    self.assertIn(node.exc.func.id, names, (path, node.lineno))
                if isinstance(node, ast.ExceptHandler):
                    self.assertIn(node.type.id, names, (path, node.lineno))

    def test_loops_do_not_change_what_they_go_over(self):
        for path, tree in trees():
            for loop in ast.walk(tree):
                if isinstance(loop, ast.For):
                    over = {ast.unparse(part) for part in ast.walk(loop.iter) if isinstance(part, (ast.Name, ast.Attribute))}
                    for node in [inner for line in loop.body for inner in ast.walk(line)]:
                        if isinstance(node, ast.Call) and isinstance(node.func, ast.Attribute):
                            if node.func.attr in ("append", "pop", "insert", "remove", "clear", "extend"):
                                self.assertNotIn(ast.unparse(node.func.value), over, (path, node.lineno))
                        if isinstance(node, ast.Subscript) and isinstance(node.ctx, ast.Store):
                            self.assertNotIn(ast.unparse(node.value), over, (path, node.lineno))


class Classes(unittest.TestCase):
    def members(self):
        """For each class its methods, its properties and the attributes that it assigns."""
        for path, tree in trees():
            for item in tree.body:
                if isinstance(item, ast.ClassDef):
                    parts = [part for part in item.body if isinstance(part, ast.FunctionDef)]
                    methods = {part.name for part in parts if not part.decorator_list}
                    properties = {part.name for part in parts if part.decorator_list}
                    attributes = {node.attr for node in ast.walk(item)
                                  if isinstance(node, ast.Attribute) and isinstance(node.ctx, ast.Store)}
                    yield path, item.name, methods, properties, attributes

    def test_methods_and_attributes(self):
        every = list(self.members())
        stored = {name for member in every for name in member[4]}
        for path, word, methods, properties, attributes in every:
            self.assertEqual(methods & attributes, set(), (path, word))
            self.assertEqual(properties & stored, set(), (path, word))
            self.assertEqual(properties & {name for member in every for name in member[2]}, set(), (path, word))

    def test_attributes_are_free(self):
        taken = {name for kind in (str, int, list, dict, set, bytes, tuple) for name in dir(kind)}
        for path, word, methods, properties, attributes in self.members():
            self.assertEqual((methods | properties | attributes) & taken, {"add", "__init__"} & methods, (path, word))

    def test_no_method_is_read_off_a_class(self):
        names = {word for _, word, _, _, _ in self.members()}
        for path, tree in trees():
            for node in ast.walk(tree):
                if isinstance(node, ast.Attribute) and isinstance(node.value, ast.Name):
                    self.assertNotIn(node.value.id, names, (path, node.lineno))

    def test_properties_only_read(self):
        for path, tree in trees():
            for node in ast.walk(tree):
                if isinstance(node, ast.FunctionDef) and node.decorator_list:
                    lines = [line for line in node.body if not isinstance(line, ast.Expr)]
                    self.assertEqual([type(line) for line in lines], [ast.Return], (path, node.name))


class Values(unittest.TestCase):
    def test_where_generator_expressions_and_sets_stand(self):
        for path, tree in trees():
            direct = set()
            for node in ast.walk(tree):
                if isinstance(node, ast.Call) and isinstance(node.func, ast.Name):
                    if node.func.id in ("list", "tuple", "dict", "sorted", "sum", "min", "max", "any", "all"):
                        direct.update(id(part) for part in node.args)
                    if node.func.id in ("sorted", "len"):
                        for part in node.args:
                            if isinstance(part, ast.Call) and isinstance(part.func, ast.Name) and part.func.id == "set":
                                direct.add(id(part))
            for node in ast.walk(tree):
                is_set = isinstance(node, ast.Call) and isinstance(node.func, ast.Name) and node.func.id == "set"
                if isinstance(node, ast.GeneratorExp) or is_set:
                    self.assertIn(id(node), direct, (path, node.lineno))

    def test_views_are_iterated_at_once(self):
        for path, tree in trees():
            direct = set()
            for node in ast.walk(tree):
                if isinstance(node, (ast.For, ast.comprehension)):
                    direct.add(id(node.iter))
                elif isinstance(node, ast.Call) and isinstance(node.func, ast.Name):
                    direct.update(id(part) for part in node.args)
            for node in ast.walk(tree):
                if isinstance(node, ast.Call):
                    name = node.func.id if isinstance(node.func, ast.Name) else node.func.attr
                    if name in ("zip", "enumerate", "reversed", "range", "items", "keys", "values", "permutations"):
                        self.assertIn(id(node), direct, (path, node.lineno))


class Names(unittest.TestCase):
    def test_names_are_free(self):
        for path, tree in trees():
            for name in bound_names(tree):
                self.assertNotIn(name, vars(builtins), path)
                self.assertNotIn(name, NEVER, path)
                if name not in ("__init__", "_"):
                    self.assertRegex(name, "^_?[A-Za-z][A-Za-z0-9_]*$")
            for node in ast.walk(tree):
                if isinstance(node, ast.ClassDef):
                    self.assertFalse(node.name.startswith("_"), (path, node.name))
                if isinstance(node, ast.Attribute):
                    self.assertNotIn(node.attr, NEVER, (path, node.lineno))

    def test_local_names_are_not_those_of_imports_and_classes(self):
        for path, tree in trees():
            taken = set(imported_names(tree)) | {node.name for node in tree.body if isinstance(node, ast.ClassDef)}
            tops = [node.name for node in tree.body if isinstance(node, (ast.FunctionDef, ast.ClassDef))]
            tops += [node.targets[0].id for node in tree.body if isinstance(node, ast.Assign)]
            tops += imported_names(tree)
            self.assertEqual(len(tops), len(set(tops)), path)
            for function in ast.walk(tree):
                if isinstance(function, ast.FunctionDef):
                    for name in bound_names(ast.Module(body=function.body, type_ignores=[])):
                        self.assertNotIn(name, taken, (path, function.name))
                    for argument in function.args.args + function.args.kwonlyargs:
                        self.assertNotIn(argument.arg, taken, (path, function.name))

    def test_words_that_do_not_occur(self):
        for path, tree in trees():
            docs = {id(node.body[0].value) for node in ast.walk(tree)
                    if isinstance(node, (ast.Module, ast.FunctionDef, ast.ClassDef))
                    and node.body and isinstance(node.body[0], ast.Expr)}
            for node in ast.walk(tree):
                if isinstance(node, ast.Constant) and isinstance(node.value, str) and id(node) not in docs:
                    self.assertNotIn("%", node.value, (path, node.lineno))
                    self.assertFalse(WORDS & set(node.value.split()), (path, node.lineno))
                if isinstance(node, (ast.Name, ast.Attribute, ast.arg)):
                    name = getattr(node, "id", None) or getattr(node, "attr", None) or getattr(node, "arg", None)
                    self.assertNotIn(name, WORDS, (path, node.lineno))


if __name__ == "__main__":
    unittest.main()

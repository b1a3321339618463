"""The form of the files of the package: those rules of LANGUAGE.md that a short program can check."""

import ast
import builtins
import pathlib
import tokenize
import unittest

PACKAGE = pathlib.Path(__file__).resolve().parent.parent / "stepblocks"
ALLOWED_BUILTINS = set("""len range enumerate zip min max sum abs sorted reversed int str bool list tuple dict set
isinstance ord repr any all divmod pow Exception ValueError TypeError KeyError IndexError LookupError iter next map
ZeroDivisionError ArithmeticError OverflowError RuntimeError NotImplementedError AttributeError StopIteration type
NotImplemented property staticmethod classmethod super object""".split())
METHODS = set("""append clear copy count endswith extend find get index insert isalnum isalpha isdigit islower isspace
isupper items join keys ljust lower lstrip partition pop remove replace reverse rfind rjust rpartition rsplit rstrip
setdefault split splitlines startswith strip update upper values zfill bit_length title capitalize swapcase casefold
center expandtabs removeprefix removesuffix rindex isascii isdecimal isnumeric istitle isidentifier isprintable
add discard appendleft popleft rotate""".split())
SPECIAL_METHODS = set("""__init__ __eq__ __repr__ __str__ __len__ __enter__ __exit__ __call__ __iter__ __lt__ __le__
__gt__ __ge__ __ne__ __contains__ __getitem__ __setitem__ __bool__""".split())
BARRED_NAMES = set("""register mro elements open input law version_info with_traceback add_note attrgetter breakpoint
builtins compile copyright credits delattr dir eval exec exit gc globals help id importlib license locals methodcaller
os quit vars sys""".split())
BARRED_WORDS = r"\b(typing|typing_extensions|enum|Enum|IntEnum|StrEnum|Flag|IntFlag|Generic|Protocol|ABC|ABCMeta" \
               r"|namedtuple|NamedTuple|TypedDict|TYPE_CHECKING|abstractmethod)\b|dataclass|overload|contextmanager"
BARRED_ATTRIBUTES = set("""items keys values pop update append clear extend insert remove reverse setdefault sort args
encode decode hex fromhex format format_map mro as_integer_ratio bit_count conjugate from_bytes is_integer
to_bytes""".split())
LIBRARY = {"heapq", "math", "itertools", "collections"}
BARRED_NODES = (ast.AsyncFunctionDef, ast.AsyncFor, ast.AsyncWith, ast.Await, ast.Global, ast.Div, ast.MatMult,
                ast.TryStar, ast.Import)


def files():
    return sorted(PACKAGE.rglob("*"))


def trees():
    return [(path, ast.parse(path.read_text("ascii"))) for path in files() if path.suffix == ".py"]


def bound_names(tree):
    for node in ast.walk(tree):
        if isinstance(node, (ast.FunctionDef, ast.ClassDef)):
            yield node.name, node
        elif isinstance(node, ast.Name) and not isinstance(node.ctx, ast.Load):
            yield node.id, node
        elif isinstance(node, ast.arg):
            yield node.arg, node
        elif isinstance(node, ast.alias):
            yield node.asname or node.name, node


class FilesTest(unittest.TestCase):
    def test_folder_and_names(self):
        for path in files():
            if "__pycache__" in path.parts:
                continue
            self.assertEqual(path.suffix, ".py", path)
            self.assertRegex(path.stem, "^[a-z_0-9]+$")
        self.assertTrue((PACKAGE / "__init__.py").is_file())

    def test_sizes_and_signs(self):
        for path, tree in trees():
            lines = path.read_text("ascii").split("\n")
            self.assertLessEqual(len(lines), 399, path)
            for line in lines:
                self.assertLessEqual(len(line), 120, line)
                self.assertTrue(all(" " <= sign <= "~" for sign in line), line)
            for node in ast.walk(tree):
                if isinstance(node, ast.FunctionDef):
                    self.assertLessEqual(node.end_lineno - node.lineno + 1, 40, (path, node.name))

    def test_words(self):
        for path in files():
            if path.suffix != ".py":
                continue
            with tokenize.open(path) as source:
                for token in tokenize.generate_tokens(source.readline):
                    text = token.string
                    if token.type != tokenize.COMMENT and not text.startswith('"""'):
                        self.assertNotRegex(text, BARRED_WORDS, path)
                        if token.type == tokenize.STRING:
                            self.assertNotIn("%", text, path)


class StatementsTest(unittest.TestCase):
    def test_module_level(self):
        for path, tree in trees():
            names = []
            for number, node in enumerate(tree.body):
                if isinstance(node, ast.Expr):
                    self.assertTrue(number == 0 and isinstance(node.value.value, str), path)
                elif isinstance(node, ast.Assign):
                    self.assertEqual([type(target) for target in node.targets], [ast.Name], path)
                    names.append(node.targets[0].id)
                    self.check_plain(node.value)
                elif isinstance(node, ast.ImportFrom):
                    names += [alias.name for alias in node.names]
                else:
                    self.assertIsInstance(node, (ast.FunctionDef, ast.ClassDef), path)
                    names.append(node.name)
            self.assertEqual(len(set(names)), len(names), path)

    def check_plain(self, value):
        """A table holds no lists and no dicts."""
        for node in ast.walk(value):
            self.assertIsInstance(node, (ast.Constant, ast.Name, ast.Tuple, ast.List, ast.Dict, ast.expr_context))
            if node is not value:
                self.assertNotIsInstance(node, (ast.List, ast.Dict))

    def test_imports(self):
        known = {f"stepblocks.{path.stem}": {name for name, _ in bound_names(ast.Module(
            [node for node in tree.body if not isinstance(node, ast.ImportFrom)], []))} for path, tree in trees()}
        follows = {}
        for path, tree in trees():
            here = f"stepblocks.{path.stem}"
            follows[here] = set()
            for node in ast.walk(tree):
                if isinstance(node, ast.ImportFrom) and node.module not in LIBRARY:
                    self.assertIn(node, tree.body)
                    self.assertEqual(node.level, 0)
                    self.assertIn(node.module, known, path)
                    self.assertTrue({alias.name for alias in node.names} <= known[node.module], path)
                    follows[here].add(node.module)
        while follows:
            free = [name for name, used in follows.items() if not used & set(follows)]
            self.assertTrue(free, f"files import from each other: {sorted(follows)}")
            for name in free:
                del follows[name]

    def test_statements_and_expressions(self):
        for path, tree in trees():
            for node in ast.walk(tree):
                where = (path.name, getattr(node, "lineno", 0))
                self.assertNotIsInstance(node, BARRED_NODES, where)
                if isinstance(node, ast.Constant):
                    self.assertNotIsInstance(node.value, (float, complex), where)
                if isinstance(node, (ast.FunctionDef, ast.ClassDef)):
                    for decorator in node.decorator_list:
                        self.assertIn(ast.unparse(decorator).split(".")[-1],
                                      ("property", "setter", "staticmethod", "classmethod"), where)
                if isinstance(node, ast.ExceptHandler):
                    self.assertIsNotNone(node.type, where)
                if isinstance(node, ast.Compare) and any(isinstance(op, (ast.Is, ast.IsNot)) for op in node.ops):
                    self.assertIsInstance(node.comparators[0], ast.Constant, where)
                if isinstance(node, ast.Call) and isinstance(node.func, ast.Name):
                    self.check_call(node, where)

    def check_call(self, node, where):
        """Where a class has __eq__, any, all and the like take lists instead of generator expressions."""
        if node.func.id in ("any", "all", "min", "max", "sum", "sorted"):
            self.assertFalse([a for a in node.args if isinstance(a, ast.GeneratorExp)], where)

    def test_names(self):
        for path, tree in trees():
            own_methods = {name for _, other in trees() for name, node in bound_names(other)
                           if isinstance(node, ast.FunctionDef)}
            for name, node in bound_names(tree):
                where = (path.name, name)
                self.assertNotIn(name, BARRED_NAMES, where)
                if name.startswith("__"):
                    self.assertIn(name, SPECIAL_METHODS, where)
                self.assertFalse(hasattr(builtins, name) and name not in SPECIAL_METHODS, where)
            bound = {name for name, _ in bound_names(tree)}
            for node in ast.walk(tree):
                if isinstance(node, ast.Name) and node.id not in bound:
                    self.assertIn(node.id, ALLOWED_BUILTINS, path)
                if isinstance(node, ast.Call) and isinstance(node.func, ast.Attribute):
                    self.assertIn(node.func.attr, METHODS | own_methods, path)

    def test_methods_of_the_interface_stand_in_their_classes(self):
        listed = {"Primitive": {"parse", "interface", "compute", "__str__"}, "Diagram": {"parse", "__str__", "__eq__"},
                  "Compiled": {"interface"},
                  "Library": {"parse", "__str__", "names", "rebuilt", "diagram", "compiled", "build_order", "draft",
                              "change"},
                  "Draft": {"put", "drop", "commit", "close", "__enter__", "__exit__"},
                  "Runner": {"__init__", "state", "instant", "begin", "step", "step_row", "trace", "restore", "move"},
                  "Instant": {"ready", "give", "give_all", "read", "finish", "drop", "table", "__enter__", "__exit__"},
                  "Net": {"__init__", "__eq__", "__len__", "__contains__", "__call__", "of", "wide"},
                  "NetRun": {"__init__", "now", "go", "lead", "leads", "shrink", "mark", "back"}}
        for _, tree in trees():
            for node in tree.body:
                if isinstance(node, ast.ClassDef) and node.name in listed:
                    has = {inner.name for inner in node.body if isinstance(inner, ast.FunctionDef)}
                    self.assertTrue(listed.pop(node.name) <= has, node.name)
        self.assertEqual(listed, {})

    def test_local_names_hide_nothing(self):
        for path, tree in trees():
            outer = {name for name, node in bound_names(tree) if isinstance(node, (ast.ClassDef, ast.alias))}
            for node in ast.walk(tree):
                name = node.arg if isinstance(node, ast.arg) else getattr(node, "id", None)
                if isinstance(node, ast.arg) or isinstance(node, ast.Name) and not isinstance(node.ctx, ast.Load):
                    self.assertNotIn(name, outer, path)

    def test_no_generator_expressions_and_no_sorting_in_place(self):
        for path, tree in trees():
            for node in ast.walk(tree):
                self.assertNotIsInstance(node, ast.GeneratorExp, path)
                if isinstance(node, ast.Attribute):
                    self.assertNotEqual(node.attr, "sort", path)

    def test_names_of_generators_are_their_own(self):
        functions = [node for _, tree in trees() for node in ast.walk(tree) if isinstance(node, ast.FunctionDef)]
        names = [node.name for node in functions]
        for node in functions:
            if any(isinstance(inner, (ast.Yield, ast.YieldFrom)) for inner in ast.walk(node)):
                self.assertEqual(names.count(node.name), 1, node.name)
                self.assertNotIn(node.name, METHODS)


class ExitTest(unittest.TestCase):
    """L6 With: the rows of __exit__, and of each method of a name that an __exit__ calls on self."""

    def setUp(self):
        self.methods = {}
        for _, tree in trees():
            for node in ast.walk(tree):
                if isinstance(node, ast.ClassDef):
                    for inner in node.body:
                        if isinstance(inner, ast.FunctionDef):
                            self.methods.setdefault(inner.name, []).append(inner)

    def is_simple(self, node):
        """Tell whether a node is a value of an object, a local, a written value, or put together of such."""
        if isinstance(node, (ast.Tuple, ast.List)):
            return all(self.is_simple(inner) for inner in node.elts)
        if isinstance(node, ast.BinOp):
            right = isinstance(node.op, ast.Add) and self.is_simple(node.right) or isinstance(node.op, ast.Sub) \
                and isinstance(node.right, ast.Constant)
            return self.is_simple(node.left) and right
        return isinstance(node, (ast.Name, ast.Constant)) or (
            isinstance(node, ast.Attribute) and isinstance(node.value, ast.Name))

    def is_row(self, node, called):
        if isinstance(node, ast.Pass):
            return True
        if isinstance(node, ast.Return):
            return node.value is None or isinstance(node.value, ast.Constant) and node.value.value in (None, False)
        if isinstance(node, ast.Assign):
            return all(isinstance(target, (ast.Attribute, ast.Name)) for target in node.targets) and \
                self.is_simple(node.value)
        if isinstance(node, ast.AugAssign):
            return isinstance(node.target, ast.Attribute) and isinstance(node.value, ast.Constant)
        if isinstance(node, ast.If):
            return all(self.is_row(inner, called) for inner in node.body + node.orelse)
        if isinstance(node, ast.Expr) and isinstance(node.value, ast.Call):
            call = node.value
            if not isinstance(call.func, ast.Attribute):
                return False
            if isinstance(call.func.value, ast.Name) and call.func.value.id == "self" and not call.args:
                called.append(call.func.attr)
                return True
            return call.func.attr in ("append", "clear") and all(self.is_simple(given) for given in call.args)
        return isinstance(node, ast.Expr) and isinstance(node.value, ast.Constant)

    def test_rows_of_exit(self):
        self.assertGreater(len(self.methods["__exit__"]), 1)
        done, left = set(), ["__exit__"]
        while left:
            name = left.pop()
            if name not in done:
                done.add(name)
                for method in self.methods[name]:
                    for node in method.body:
                        self.assertTrue(self.is_row(node, left), (name, method.lineno, ast.unparse(node)))
                    if name != "__exit__":
                        self.assertEqual([arg.arg for arg in method.args.args], ["self"], (name, method.lineno))


def is_property(node):
    return isinstance(node, ast.FunctionDef) and [ast.unparse(one) for one in node.decorator_list] == ["property"]


class AttributesTest(unittest.TestCase):
    def stored(self, tree):
        """Return the names of all attributes that are assigned in a tree."""
        return {node.attr for node in ast.walk(tree)
                if isinstance(node, ast.Attribute) and isinstance(node.ctx, ast.Store)}

    def test_names_of_attributes(self):
        for path, tree in trees():
            self.assertFalse(self.stored(tree) & BARRED_ATTRIBUTES, path)

    def test_properties_are_not_assigned_and_change_nothing(self):
        functions = [node for _, tree in trees() for node in ast.walk(tree) if isinstance(node, ast.FunctionDef)]
        properties = [node for node in functions if is_property(node)]
        names = {node.name for node in properties}
        for path, tree in trees():
            self.assertFalse(self.stored(tree) & names, path)
        for node in functions:
            self.assertTrue(node.name not in names or node in properties, node.name)
        for node in properties:
            self.assertFalse([inner for inner in ast.walk(node) if isinstance(inner, (ast.Attribute, ast.Subscript))
                              and not isinstance(inner.ctx, ast.Load)], node.name)

    def test_no_method_is_an_attribute_or_defined_twice(self):
        for path, tree in trees():
            for node in tree.body:
                if isinstance(node, ast.ClassDef):
                    methods = [inner.name for inner in node.body if isinstance(inner, ast.FunctionDef)]
                    self.assertEqual(len(set(methods)), len(methods), node.name)
                    self.assertFalse(set(methods) & self.stored(node), node.name)

    def test_attributes_that_are_read_are_somewhere(self):
        stored, others = set(), set(METHODS)
        for _, tree in trees():
            stored |= self.stored(tree)
            others |= {name for name, _ in bound_names(tree)}
        for path, tree in trees():
            for node in ast.walk(tree):
                if isinstance(node, ast.Attribute):
                    self.assertIn(node.attr, stored | others | SPECIAL_METHODS, path)


if __name__ == "__main__":
    unittest.main()

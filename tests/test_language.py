"""Whether the files of the package keep to the plain subset of Python that is asked of them."""

import ast
import builtins
import keyword
import pathlib
import re
import unittest

FOLDER = pathlib.Path(__file__).parent.parent / "huesandrounds"
FILES = sorted(FOLDER.glob("*.py"))
LIBRARY = {"math": {"gcd", "lcm", "isqrt", "comb", "perm", "factorial"}}
BUILTINS = set("""len range enumerate zip min max sum abs sorted reversed int str bool list tuple dict set isinstance
ord repr any all divmod ValueError TypeError super property classmethod""".split())
METHODS = set("""append clear copy count endswith extend find get index insert isdigit items join keys pop replace
setdefault split startswith strip values zfill bit_length _led""".split())
# Methods that run by a sign or a builtin, and those of them that may change the object itself.
CHANGERS = {"__init__", "__ixor__", "__iadd__"}
DOUBLE = CHANGERS | set("""__eq__ __str__ __len__ __bool__ __iter__ __contains__ __getitem__ __call__ __xor__ __add__
__sub__ __or__ __invert__""".split())
CHANGING = {"append", "clear", "extend", "insert", "pop", "remove", "reverse", "setdefault", "update", "sort", "add"}
WORDS = set("""type typing enum Enum IntEnum StrEnum Flag IntFlag Generic Protocol ABC ABCMeta namedtuple NamedTuple
TypedDict abstractmethod dataclass overload contextmanager metaclass Meta _wall""".split())
NAMES = set("""register mro elements open input law eval exec exit compile dir vars id hash type super globals locals
getattr setattr help copyright credits license quit os sys gc next iter""".split())
NODES = (
    ast.Module, ast.Expr, ast.Constant, ast.ImportFrom, ast.alias, ast.FunctionDef, ast.arguments, ast.arg,
    ast.ClassDef, ast.Assign, ast.Name, ast.Load, ast.Store, ast.Return, ast.If, ast.While, ast.For, ast.Break,
    ast.Continue, ast.Raise, ast.Call, ast.keyword, ast.Attribute, ast.Subscript, ast.Slice, ast.Tuple, ast.List,
    ast.Dict, ast.ListComp, ast.DictComp, ast.SetComp, ast.comprehension, ast.IfExp, ast.BoolOp, ast.And, ast.Or,
    ast.BinOp, ast.UnaryOp, ast.Compare, ast.JoinedStr, ast.FormattedValue, ast.Add, ast.Sub, ast.Mult,
    ast.FloorDiv, ast.Mod, ast.Pow, ast.LShift, ast.BitXor, ast.BitAnd, ast.BitOr, ast.RShift, ast.Not, ast.USub,
    ast.Try, ast.Yield, ast.Starred, ast.Eq, ast.NotEq, ast.Lt, ast.LtE, ast.Gt, ast.GtE, ast.In, ast.NotIn, ast.Is,
    ast.IsNot)
ITERATED = {"zip", "enumerate", "reversed", "range"}


def parents(tree):
    found = {}
    for node in ast.walk(tree):
        for child in ast.iter_child_nodes(node):
            found[child] = node
    return found


def functions(tree):
    return [node for node in ast.walk(tree) if isinstance(node, ast.FunctionDef)]


def bound_names(tree):
    """All names that are bound inside of functions, parameters among them."""
    for function in functions(tree):
        for node in ast.walk(function):
            if isinstance(node, ast.arg):
                yield node.arg
            if isinstance(node, ast.Name) and isinstance(node.ctx, ast.Store):
                yield node.id


def root(node):
    """The name that an item or an attribute is taken from."""
    while isinstance(node, (ast.Subscript, ast.Attribute)):
        node = node.value
    return node.id if isinstance(node, ast.Name) else None


def is_fresh(value):
    """Whether an expression makes a new list or dict that may be changed then."""
    if isinstance(value, ast.Call):
        return isinstance(value.func, ast.Name) and value.func.id in ("list", "dict", "sorted")
    return isinstance(value, (ast.List, ast.Dict, ast.ListComp))


class Language(unittest.TestCase):
    def each(self):
        for path in FILES:
            text = path.read_text()
            yield path, text, ast.parse(text)

    def test_files(self):
        self.assertTrue(all(path.suffix == ".py" for path in FOLDER.iterdir() if path.name != "__pycache__"))
        for path, text, tree in self.each():
            self.assertRegex(path.stem, "^[a-z_][a-z0-9_]*$")
            self.assertTrue(all(char == "\n" or " " <= char <= "~" for char in text), path)
            self.assertLess(len(text.splitlines()), 400, path)
            self.assertLessEqual(max(map(len, text.splitlines())), 120, path)
            self.assertNotIn("\\", text.replace("\\n", ""), path)
            for node in functions(tree):
                self.assertLessEqual(node.end_lineno - node.lineno + 1, 40, node.name)
                self.assertEqual(bool(ast.get_docstring(node)), node.name not in DOUBLE, node.name)
            self.assertTrue(ast.get_docstring(tree), path)

    def test_nodes(self):
        for path, _, tree in self.each():
            for node in ast.walk(tree):
                told = (path.name, getattr(node, "lineno", 0), type(node).__name__)
                self.assertIsInstance(node, NODES, told)
                if isinstance(node, ast.Constant):
                    self.assertNotIsInstance(node.value, (float, complex, bytes), told)
                    self.assertNotIn("%", str(node.value), told)
                if isinstance(node, ast.BinOp) and isinstance(node.op, ast.Pow):
                    self.assertIsInstance(node.right, ast.Constant, told)
                if isinstance(node, ast.Compare) and isinstance(node.ops[0], (ast.Is, ast.IsNot)):
                    self.assertIsInstance(node.comparators[0], ast.Constant, told)
                if isinstance(node, ast.ClassDef):
                    self.assertEqual(node.decorator_list, [], told)
                if isinstance(node, ast.FunctionDef) and node.decorator_list:
                    self.assertIn([item.id for item in node.decorator_list], (["property"], ["classmethod"]), told)
                    self.assertNotIn(node, tree.body, told)
                if isinstance(node, ast.Try):
                    self.assertEqual((node.handlers, node.orelse), ([], []), told)
                if isinstance(node, ast.Starred):
                    self.assertIsInstance(node.value, ast.Name, told)
                if isinstance(node, ast.For):
                    self.assertEqual(node.orelse, [], told)

    def test_module_level(self):
        plain = (ast.Constant, ast.Tuple, ast.List, ast.Dict, ast.UnaryOp, ast.BinOp, ast.operator, ast.unaryop,
                 ast.expr_context)
        for path, _, tree in self.each():
            bound = []
            for node in tree.body:
                if isinstance(node, ast.ImportFrom):
                    bound.extend(item.name for item in node.names)
                elif isinstance(node, (ast.FunctionDef, ast.ClassDef)):
                    bound.append(node.name)
                elif isinstance(node, ast.Assign):
                    bound.append(node.targets[0].id)
                    self.assertTrue(all(isinstance(item, plain) for item in ast.walk(node.value)), path)
                else:
                    self.assertIsInstance(node.value, ast.Constant, path)
            self.assertEqual(len(bound), len(set(bound)), path)

    def test_imports(self):
        defined = {path.stem: {node.name for node in tree.body if isinstance(node, (ast.FunctionDef, ast.ClassDef))}
                   | {node.targets[0].id for node in tree.body if isinstance(node, ast.Assign)}
                   for path, _, tree in self.each()}
        ahead = {}
        for path, text, tree in self.each():
            rows = [node for node in ast.walk(tree) if isinstance(node, ast.ImportFrom)]
            self.assertEqual(rows, [node for node in tree.body if isinstance(node, ast.ImportFrom)])
            ahead[path.stem] = set()
            for node in rows:
                for item in node.names:
                    self.assertIsNone(item.asname)
                    self.assertEqual(len(re.findall(rf"\b{item.name}\b", text)) > 1, True, (path.name, item.name))
                    if node.module in LIBRARY:
                        self.assertIn(item.name, LIBRARY[node.module])
                    else:
                        package, module = node.module.split(".")
                        self.assertEqual(package, "huesandrounds")
                        self.assertIn(item.name, defined[module], path.name)
                        ahead[path.stem].add(module)
        while ahead:
            free = [name for name in ahead if not ahead[name] & set(ahead)]
            self.assertTrue(free, "files import from each other")
            ahead = {name: rest for name, rest in ahead.items() if name not in free}

    def test_names(self):
        for path, text, tree in self.each():
            outer = {node.name for node in tree.body if isinstance(node, (ast.FunctionDef, ast.ClassDef))}
            imports = {item.name for node in tree.body if isinstance(node, ast.ImportFrom) for item in node.names}
            for name in list(bound_names(tree)) + sorted(outer):
                # The module doctest makes `_` a builtin while it runs.
                self.assertFalse(hasattr(builtins, name) and name != "_", (path.name, name))
                self.assertNotIn(name, NAMES, path.name)
                self.assertNotIn(name, imports, path.name)
                self.assertRegex(name, "^(_|_?[A-Za-z][A-Za-z0-9_]*)$")
                self.assertFalse(keyword.iskeyword(name) or keyword.issoftkeyword(name) and name != "_", name)
            for word in WORDS:
                self.assertNotRegex(text, rf"\b{word}\b", path.name)
            self.assertNotIn("(type)", text)
            self.assertNotIn("metaclass", text)

    def test_what_is_read(self):
        for path, _, tree in self.each():
            known = {item.name for node in tree.body if isinstance(node, ast.ImportFrom) for item in node.names}
            known |= {node.name for node in tree.body if isinstance(node, (ast.FunctionDef, ast.ClassDef))}
            known |= {node.targets[0].id for node in tree.body if isinstance(node, ast.Assign)}
            known |= set(bound_names(tree)) - {"_"} | BUILTINS
            for node in ast.walk(tree):
                if isinstance(node, ast.Name) and isinstance(node.ctx, ast.Load):
                    self.assertIn(node.id, known, (path.name, node.lineno))
                if isinstance(node, ast.Call) and isinstance(node.func, ast.Attribute):
                    self.assertIn(node.func.attr, METHODS | {"__init__"}, (path.name, node.lineno))

    def test_sets_and_what_is_iterated_at_once(self):
        for path, _, tree in self.each():
            above = parents(tree)
            for node in ast.walk(tree):
                told = (path.name, getattr(node, "lineno", 0))
                called = isinstance(node, ast.Call) and isinstance(node.func, ast.Name) and node.func.id
                if isinstance(node, ast.SetComp) or called == "set":
                    over = above[node]
                    self.assertTrue(isinstance(over, ast.Call) and over.func.id in ("sorted", "len"), told)
                if called in ITERATED:
                    over = above[node]
                    if isinstance(over, (ast.For, ast.comprehension)):
                        self.assertIs(over.iter, node, told)
                    else:
                        self.assertTrue(isinstance(over, ast.Call) and over.func.id in ("list", "tuple", "dict"), told)
                if called in ("any", "all", "sum", "min", "max", "sorted"):
                    self.assertFalse(any(isinstance(item, ast.GeneratorExp) for item in node.args), told)

    def test_only_own_lists_are_changed(self):
        for path, _, tree in self.each():
            for function in functions(tree):
                made = {}
                for node in ast.walk(function):
                    if isinstance(node, ast.Assign) and isinstance(node.targets[0], ast.Name):
                        made.setdefault(node.targets[0].id, []).append(node.value)
                for node in ast.walk(function):
                    told = (path.name, function.name, getattr(node, "lineno", 0))
                    name = None
                    if isinstance(node, ast.Subscript) and isinstance(node.ctx, ast.Store):
                        self.assertIsInstance(node.value, ast.Name, told)
                        name = node.value.id
                    if isinstance(node, ast.Call) and isinstance(node.func, ast.Attribute):
                        if node.func.attr in CHANGING:
                            self.assertIsInstance(node.func.value, ast.Name, told)
                            name = node.func.value.id
                    if name is not None:
                        self.assertTrue(made.get(name) and all(is_fresh(value) for value in made[name]), told)

    def test_methods(self):
        for path, _, tree in self.each():
            for node in [item for item in tree.body if isinstance(item, ast.ClassDef)]:
                methods = {item.name: item for item in node.body if isinstance(item, ast.FunctionDef)}
                names = list(methods) + [item.targets[0].id for item in node.body if isinstance(item, ast.Assign)]
                self.assertEqual(len(names), len(set(names)), node.name)
                stored = {item.attr for item in ast.walk(node) if isinstance(item, ast.Attribute)
                          and isinstance(item.ctx, ast.Store)}
                self.assertEqual(stored & set(names), set(), node.name)
                for name, method in methods.items():
                    self.assertTrue(name in DOUBLE or not name.startswith("__"), name)
                    last = method.body[-1]
                    if name == "__iter__":
                        self.assertEqual([type(item) for item in method.body], [ast.Raise])
                        self.assertEqual(last.exc.func.id, "TypeError")
                    if name in ("__len__", "__str__"):
                        self.assertEqual([type(item) for item in method.body], [ast.Return])
                        self.assertEqual(last.value.func.id, name.strip("_"))
                    if name == "__eq__":
                        self.assertEqual([type(item) for item in method.body], [ast.Return])
                        self.assertEqual(last.value.values[0].func.id, "isinstance")
                    if name == "__bool__":
                        self.assertIsInstance(last, ast.Return)
                self.assertEqual("__getitem__" in methods, "__iter__" in methods)

    def test_what_operators_run_changes_nothing(self):
        defined, methods, starts = {}, {}, []
        for path, _, tree in self.each():
            for node in ast.walk(tree):
                if isinstance(node, ast.FunctionDef):
                    defined.setdefault(node.name, []).append(node)
                    run = node.name in DOUBLE - CHANGERS - {"__call__"}
                    if run or "property" in [item.id for item in node.decorator_list]:
                        starts.append(node)
        self.assertGreater(len(starts), 30)
        met = []
        while starts:
            node = starts.pop()
            if node in met:
                continue
            met.append(node)
            bound = {item.arg for item in ast.walk(node) if isinstance(item, ast.arg)}
            for item in ast.walk(node):
                told = (node.name, getattr(item, "lineno", 0))
                self.assertFalse(isinstance(item, ast.Attribute) and isinstance(item.ctx, ast.Store), told)
                self.assertNotIsInstance(item, (ast.AugAssign, ast.Delete, ast.Yield), told)
                if isinstance(item, ast.Call) and isinstance(item.func, ast.Name):
                    self.assertNotIn(item.func.id, bound, told)
                    starts.extend(defined.get(item.func.id, []))
                if isinstance(item, ast.Call) and isinstance(item.func, ast.Attribute):
                    starts.extend(defined.get(item.func.attr, []))
        self.assertGreater(len(met), 60)
        # All changing of lists is looked at for all functions, whatever runs them.

    def test_loops_do_not_change_what_they_go_over(self):
        for path, _, tree in self.each():
            for loop in ast.walk(tree):
                if not isinstance(loop, ast.For):
                    continue
                gone_over = {node.id for node in ast.walk(loop.iter) if isinstance(node, ast.Name)}
                for node in ast.walk(loop):
                    if isinstance(node, ast.Subscript) and isinstance(node.ctx, ast.Store):
                        self.assertNotIn(root(node), gone_over, (path.name, node.lineno))
                    if isinstance(node, ast.Call) and isinstance(node.func, ast.Attribute):
                        if node.func.attr in CHANGING:
                            self.assertNotIn(root(node.func), gone_over, (path.name, node.lineno))

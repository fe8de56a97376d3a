"""The rules of the language of the package, as far as they can be seen in its files."""

import ast
import builtins
import pathlib
import re
import unittest

PACKAGE = pathlib.Path(__file__).resolve().parent.parent / "offerstands"
LIBRARY = {
    "itertools": ("product", "combinations", "permutations"),
    "heapq": ("heappush", "heappop", "heapify", "heapreplace", "heappushpop"),
    "math": ("gcd", "lcm", "isqrt", "comb", "perm", "factorial"),
}
BUILTINS = set("""len range enumerate zip min max sum abs sorted reversed int str bool list tuple dict set isinstance
    ord repr any all divmod Exception ValueError TypeError KeyError IndexError LookupError ZeroDivisionError
    ArithmeticError OverflowError RuntimeError NotImplementedError classmethod staticmethod property""".split())
METHODS = set("""append clear copy count endswith extend find get index insert isalnum isalpha isdigit islower isspace
    isupper items join keys ljust lower lstrip partition pop remove replace reverse rfind rjust rpartition rsplit rstrip
    setdefault split splitlines startswith strip update upper values zfill bit_length isascii""".split())
DOUBLE = ("__init__", "__eq__", "__len__", "__str__", "__repr__")
BARRED = set("""register mro elements open input law version_info with_traceback add_note attrgetter breakpoint builtins
    compile copyright credits delattr dir eval exec exit gc getattr globals hasattr help id importlib license locals
    methodcaller os quit setattr super type vars sys""".split())
WORDS = r"\b(type|typing|typing_extensions|enum|Enum|IntEnum|Generic|Protocol|ABC|ABCMeta|namedtuple|_wall\w*)\b"
KEYWORDS = {"sorted": ("key", "reverse"), "min": ("key", "default"), "max": ("key", "default"), "sum": ("start",),
            "enumerate": ("start",), "zip": ("strict",)}
# None of these is needed so far, or is allowed at all.
FORBIDDEN = (
    ast.Global, ast.Nonlocal, ast.AsyncFunctionDef, ast.Await, ast.AsyncFor, ast.AsyncWith, ast.Yield, ast.YieldFrom,
    ast.GeneratorExp, ast.Set, ast.SetComp, ast.Div, ast.With, ast.Match, ast.AnnAssign, ast.Import, ast.MatMult,
    ast.TryStar,
)


def files():
    return {path.stem: path.read_text(encoding="utf-8") for path in sorted(PACKAGE.glob("*.py"))}


def trees():
    found = {name: ast.parse(text) for name, text in files().items()}
    for tree in found.values():
        for node in ast.walk(tree):
            for child in ast.iter_child_nodes(node):
                child.parent = node
    return found


def defined(tree):
    names = [node.name for node in tree.body if isinstance(node, (ast.FunctionDef, ast.ClassDef))]
    return names + [node.targets[0].id for node in tree.body if isinstance(node, ast.Assign)]


def imported(tree):
    return [name.name for node in tree.body if isinstance(node, ast.ImportFrom) for name in node.names]


def bound_by(nodes):
    """All names of parameters and variables."""
    found = [node.arg for node in nodes if isinstance(node, ast.arg)]
    found += [node.name for node in nodes if isinstance(node, ast.ExceptHandler) and node.name]
    return found + [node.id for node in nodes if isinstance(node, ast.Name) and not isinstance(node.ctx, ast.Load)]


def is_called(node):
    return isinstance(node.parent, ast.Call) and node.parent.func is node


def is_call_of(node, names):
    return isinstance(node, ast.Call) and isinstance(node.func, ast.Name) and node.func.id in names


class FilesTest(unittest.TestCase):
    def test_the_folder(self):
        for path in PACKAGE.iterdir():
            self.assertTrue(path.name == "__pycache__" or re.fullmatch(r"(__init__|[a-z]+)\.py", path.name), path)
            self.assertNotIn(path.stem, dir(builtins))

    def test_sizes_and_signs(self):
        for name, text in files().items():
            self.assertTrue(re.fullmatch(r"[ -~\n]*", text), name)
            lines = text.split("\n")
            self.assertLessEqual(len(lines), 400, name)
            self.assertLessEqual(max(map(len, lines)), 120, name)
            self.assertTrue(text.endswith("\n") and not text.endswith("\n\n"), name)
            self.assertFalse([line for line in lines if line != line.rstrip()], name)

    def test_functions_are_short(self):
        for name, tree in trees().items():
            for node in ast.walk(tree):
                if isinstance(node, ast.FunctionDef):
                    self.assertLessEqual(node.end_lineno - node.lineno + 1, 40, (name, node.name))

    def test_words(self):
        for name, text in files().items():
            self.assertIsNone(re.search(WORDS, text), name)
            self.assertIsNone(re.search(r"\\[^nt\\\"']", text), name)
        for name, tree in trees().items():
            for node in ast.walk(tree):
                if isinstance(node, ast.Constant) and isinstance(node.value, str):
                    self.assertNotIn("%", node.value, name)
                    self.assertNotIn("__", node.value, name)


class ModulesTest(unittest.TestCase):
    def test_module_level(self):
        for name, tree in trees().items():
            for at, node in enumerate(tree.body):
                if isinstance(node, ast.Expr):
                    self.assertTrue(at == 0 and isinstance(node.value.value, str), name)
                elif isinstance(node, ast.Assign):
                    self.assertTrue(len(node.targets) == 1 and isinstance(node.targets[0], ast.Name), name)
                    self.look_at_value(name, node)
                else:
                    self.assertIsInstance(node, (ast.ImportFrom, ast.FunctionDef, ast.ClassDef), name)
            names = defined(tree) + imported(tree)
            self.assertEqual(len(names), len(set(names)), name)

    def look_at_value(self, name, node):
        """A plain value, or a dict of plain keys and functions that are defined above it."""
        value = node.value
        if isinstance(value, ast.Dict) and isinstance(value.values[0], ast.Name):
            above = [part.name for part in node.parent.body if isinstance(part, ast.FunctionDef)
                     and part.lineno < node.lineno]
            self.assertTrue({part.id for part in value.values} <= set(above), name)
            self.assertEqual(len({part.value for part in value.keys}), len(value.keys))
        else:
            ast.literal_eval(value)

    def test_tables_are_only_read(self):
        for name, tree in trees().items():
            tables = [node.targets[0].id for node in tree.body
                      if isinstance(node, ast.Assign) and isinstance(node.value, (ast.Dict, ast.List))]
            for node in ast.walk(tree):
                if isinstance(node, ast.Name) and node.id in tables and isinstance(node.ctx, ast.Load):
                    indexed = isinstance(node.parent, ast.Subscript) and isinstance(node.parent.ctx, ast.Load)
                    # What is called is given a name first.
                    named = indexed and isinstance(node.parent.parent, (ast.Assign, ast.Compare, ast.BinOp))
                    tested = isinstance(node.parent, ast.Compare)
                    copied = is_call_of(node.parent, ("dict", "list"))
                    self.assertTrue(named or tested or copied, (name, node.lineno))

    def test_imports(self):
        there, told = trees(), {}
        for name, tree in there.items():
            nodes = [node for node in ast.walk(tree) if isinstance(node, ast.ImportFrom)]
            told[name] = [node.module.partition(".")[2] for node in nodes if node.module not in LIBRARY]
            for node in nodes:
                self.assertTrue(node.level == 0 and node.parent is tree, name)
                names = [alias.name for alias in node.names]
                self.assertFalse([alias for alias in node.names if alias.asname], name)
                if node.module in LIBRARY:
                    self.assertTrue(set(names) <= set(LIBRARY[node.module]), name)
                else:
                    self.assertTrue(set(names) <= set(defined(there[node.module.partition(".")[2]])), (name, names))
            used = {node.id for node in ast.walk(tree) if isinstance(node, ast.Name)}
            self.assertEqual(set(imported(tree)) - used, set(), name)
        while told:
            free = [name for name in told if not [other for other in told[name] if other in told]]
            self.assertTrue(free, told)
            told = {name: told[name] for name in told if name not in free}

    def test_nothing_is_defined_in_vain(self):
        told = "\n".join(files().values())
        interface = (PACKAGE.parent / "tests" / "test_interface.py").read_text(encoding="utf-8")
        for name, tree in trees().items():
            for word in defined(tree):
                uses = len(re.findall(rf"\b{word}\b", told))
                if name != "errors" and uses < 2:
                    self.assertTrue(re.search(rf"\b{word}\b", interface), word)


class NamesTest(unittest.TestCase):
    def test_names(self):
        for name, tree in trees().items():
            words = bound_by(list(ast.walk(tree))) + defined(tree)
            classes = [node for node in ast.walk(tree) if isinstance(node, ast.ClassDef)]
            methods = [node.name for made in classes for node in made.body if isinstance(node, ast.FunctionDef)]
            self.assertFalse((set(words) - {"_"}) & set(dir(builtins)), name)
            self.assertFalse((set(words) | set(methods)) & BARRED, name)
            plain = [node.targets[0] for node in tree.body if isinstance(node, ast.Assign)]
            inner = [node for node in ast.walk(tree) if node not in plain]
            self.assertFalse(set(bound_by(inner)) & set(imported(tree) + defined(tree)), name)
            for word in words:
                self.assertRegex(word, r"^(_|_?[A-Za-z][A-Za-z0-9_]*)$", name)
            for word in methods:
                self.assertTrue(word in DOUBLE or not word.startswith("__"), word)
            for node in ast.walk(tree):
                if isinstance(node, ast.Name) and isinstance(node.ctx, ast.Load):
                    self.assertNotEqual(node.id, "_", name)
                    if node.id not in words and node.id not in imported(tree):
                        self.assertIn(node.id, BUILTINS, (name, node.lineno))

    def test_attributes(self):
        there = trees()
        attributes = [node for tree in there.values() for node in ast.walk(tree) if isinstance(node, ast.Attribute)]
        assigned = {node.attr for node in attributes if isinstance(node.ctx, ast.Store)}
        inner = [node for tree in there.values() for made in tree.body if isinstance(made, ast.ClassDef)
                 for node in made.body if isinstance(node, ast.FunctionDef)]
        properties = {node.name for node in inner if "property" in [word.id for word in node.decorator_list]}
        methods = {node.name for node in inner} - properties
        self.assertFalse((methods | properties) & assigned or properties & (methods | METHODS))
        for node in attributes:
            called = isinstance(node.parent, ast.Call) and node.parent.func is node
            self.assertIn(node.attr, METHODS | methods if called else assigned | properties, node.lineno)
            if called and node.attr in METHODS:
                self.assertFalse(node.parent.keywords)

    def test_decorators_and_bases(self):
        for name, tree in trees().items():
            for node in ast.walk(tree):
                if isinstance(node, ast.FunctionDef) and node.decorator_list:
                    self.assertIn([word.id for word in node.decorator_list], (["classmethod"], ["property"]), name)
                if isinstance(node, ast.ClassDef):
                    self.assertFalse(node.decorator_list or node.keywords, name)
                    self.assertLessEqual(len(node.bases), 1, name)


class ExpressionsTest(unittest.TestCase):
    def each(self, kinds):
        for name, tree in trees().items():
            for node in ast.walk(tree):
                if isinstance(node, kinds):
                    yield name, node

    def test_forbidden(self):
        self.assertEqual([(name, node.lineno) for name, node in self.each(FORBIDDEN)], [])

    def test_numbers(self):
        for name, node in self.each(ast.Constant):
            self.assertNotIsInstance(node.value, (float, complex, bytes), name)
        for name, node in self.each(ast.BinOp):
            if isinstance(node.op, ast.Pow):
                self.assertIsInstance(node.right, ast.Constant, name)

    def test_is(self):
        for name, node in self.each(ast.Compare):
            for sign, right in zip(node.ops, node.comparators):
                if isinstance(sign, (ast.Is, ast.IsNot)):
                    self.assertTrue(isinstance(right, ast.Constant) and right.value in (None, True, False), name)

    def test_calls_of_builtins(self):
        for name, node in self.each(ast.Call):
            if isinstance(node.func, ast.Name) and node.func.id in BUILTINS:
                words = [word.arg for word in node.keywords]
                self.assertTrue(set(words) <= set(KEYWORDS.get(node.func.id, ())), (name, node.lineno))
                starred = [part for part in node.args if isinstance(part, ast.Starred)]
                self.assertFalse(starred and node.func.id not in ("max", "min", "zip"), (name, node.lineno))

    def test_builtins_and_classes_are_not_passed_on(self):
        made = {node.name for tree in trees().values() for node in tree.body if isinstance(node, ast.ClassDef)}
        for name, node in self.each(ast.Name):
            if isinstance(node.ctx, ast.Load) and node.id in (BUILTINS | made):
                told = isinstance(node.parent, ast.Call) and node.parent.func is node
                # A class method is called off its class.
                told = told or isinstance(node.parent, ast.Attribute) and is_called(node.parent)
                asked = is_call_of(node.parent, ("isinstance",))
                above = isinstance(node.parent, (ast.ClassDef, ast.FunctionDef, ast.ExceptHandler))
                listed = isinstance(node.parent, ast.Tuple) and (
                    is_call_of(node.parent.parent, ("isinstance",)) or isinstance(node.parent.parent, ast.ExceptHandler))
                self.assertTrue(told or asked or above or listed, (name, node.lineno, node.id))

    def test_raised_errors_are_made_on_the_spot(self):
        errors = defined(trees()["errors"])
        for name, node in self.each(ast.Raise):
            self.assertTrue(is_call_of(node.exc, errors) and node.cause is None, (name, node.lineno))
            self.assertFalse([part for part in node.exc.args if isinstance(part, ast.Starred)], (name, node.lineno))

    def test_handlers_name_own_errors(self):
        errors = defined(trees()["errors"])
        for name, node in self.each(ast.ExceptHandler):
            words = node.type.elts if isinstance(node.type, ast.Tuple) else [node.type]
            self.assertTrue({word.id for word in words} <= set(errors), (name, node.lineno))
        for name, node in self.each(ast.Try):
            self.assertFalse(node.finalbody or node.orelse, (name, node.lineno))
        for name, node in self.each(ast.FunctionDef):
            names = [part.name for part in ast.walk(node) if isinstance(part, ast.ExceptHandler) and part.name]
            stored = [part.id for part in ast.walk(node) if isinstance(part, ast.Name)
                      and isinstance(part.ctx, ast.Store)] + [part.arg for part in ast.walk(node) if isinstance(part, ast.arg)]
            self.assertFalse(len(names) != len(set(names)) or set(names) & set(stored), (name, node.name))

    def test_deleted_are_items(self):
        for name, node in self.each(ast.Delete):
            self.assertTrue(all(isinstance(part, ast.Subscript) for part in node.targets), (name, node.lineno))

    def test_special_methods_assign_nothing(self):
        for name, node in self.each(ast.FunctionDef):
            if node.name in ("__eq__", "__len__", "__str__", "__repr__"):
                # A local list that the method makes itself may be assigned.
                for part in ast.walk(node):
                    self.assertNotIsInstance(part, (ast.AugAssign, ast.NamedExpr), (name, node.lineno))
                    if isinstance(part, ast.Assign):
                        self.assertIsInstance(part.value, (ast.List, ast.ListComp), (name, node.lineno))
                        self.assertIsInstance(part.targets[0], ast.Name, (name, node.lineno))
                self.assertIsInstance(node.body[-1], ast.Return)

    def test_sets_are_sorted_or_counted_at_once(self):
        for name, node in self.each(ast.Call):
            if is_call_of(node, ("set",)):
                place = node.parent
                while isinstance(place, ast.BinOp):
                    place = place.parent
                self.assertTrue(is_call_of(place, ("sorted", "len")), (name, node.lineno))

    def test_what_is_iterated_at_once(self):
        for name, node in self.each(ast.Call):
            views = isinstance(node.func, ast.Attribute) and node.func.attr in ("items", "keys", "values")
            if views or is_call_of(node, ("zip", "enumerate", "reversed", "range", "combinations", "product")):
                place = node.parent
                looped = isinstance(place, (ast.For, ast.comprehension)) and place.iter is node
                taken = is_call_of(place, ("list", "tuple", "dict", "sorted", "sum", "enumerate", "zip"))
                taken = taken and place.args[0] is node
                ranged = is_call_of(node, ("range",)) and is_call_of(place, ("len", "reversed", "combinations"))
                self.assertTrue(looped or taken or ranged, (name, node.lineno))

    def test_lambdas_on_one_line_have_other_parameters(self):
        met = {}
        for name, node in self.each(ast.Lambda):
            key = (name, node.lineno, tuple([part.arg for part in node.args.args]))
            self.assertNotIn(key, met)
            met[key] = True

    def test_loops_do_not_change_what_they_go_over(self):
        changes = ("append", "extend", "pop", "insert", "remove", "clear", "update", "setdefault", "reverse")
        for name, node in self.each(ast.For):
            # What list(..) gives is another list.
            if is_call_of(node.iter, ("list",)):
                continue
            over = {part.id for part in ast.walk(node.iter) if isinstance(part, ast.Name)}
            for part in [inner for row in node.body for inner in ast.walk(row)]:
                if isinstance(part, ast.Attribute) and part.attr in changes and isinstance(part.value, ast.Name):
                    self.assertNotIn(part.value.id, over, (name, part.lineno))
                is_put = isinstance(part, ast.Subscript) and isinstance(part.ctx, ast.Store)
                if is_put and isinstance(part.value, ast.Name):
                    self.assertNotIn(part.value.id, over, (name, part.lineno))


if __name__ == "__main__":
    unittest.main()

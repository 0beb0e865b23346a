"""The rules of the language that can be seen in the text of the package's files."""

import ast
import builtins
import keyword
import re
import unittest
from pathlib import Path

FOLDER = Path(__file__).resolve().parent.parent / "placeworths"
FILES = sorted(FOLDER.glob("*.py"))
BUILTINS = set(
    "len range enumerate zip min max sum abs sorted reversed int str bool bytes list tuple dict set "
    "frozenset isinstance ord repr any all divmod iter next map property staticmethod classmethod super "
    "Exception ValueError TypeError KeyError IndexError LookupError ZeroDivisionError ArithmeticError "
    "OverflowError RuntimeError NotImplementedError AttributeError StopIteration NotImplemented".split()
)
METHODS = set(
    "append clear copy count endswith extend find get index insert isalnum isalpha isdigit islower "
    "isspace isupper items join keys ljust lower lstrip partition pop remove replace reverse rfind rjust "
    "rpartition rsplit rstrip setdefault split splitlines startswith strip update upper values zfill "
    "bit_length title capitalize swapcase casefold center expandtabs removeprefix removesuffix rindex "
    "isascii isdecimal isnumeric istitle isidentifier isprintable add discard".split()
)
LIBRARY = {"heapq": "heappush heappop heapify heapreplace heappushpop", "math": "gcd lcm isqrt comb perm factorial",
           "itertools": "product combinations permutations"}
BARRED_ANYWHERE = set("register mro elements open input law version_info with_traceback add_note".split())
BARRED_NAMES = set(
    "attrgetter breakpoint builtins compile copyright credits delattr dir eval exec exit gc getattr "
    "globals hasattr help id importlib license locals methodcaller os quit setattr type vars sys".split()
)
BARRED_WORDS = re.compile(
    r"\b(type|typing|typing_extensions|enum|Enum|IntEnum|StrEnum|Flag|IntFlag|Generic|Protocol|ABC|ABCMeta|namedtuple"
    r"|NamedTuple|TypedDict|TYPE_CHECKING|abstractmethod)\b|dataclass|overload|contextmanager"
)
BARRED_STARTS = (
    "_wall", "_pe_", "_dcw_", "_enum_", "_cm_", "_twin_re_", "_lay_", "_law_", "_stub_", "_sre", "_WallAttr",
)
MODIFIERS = set("append extend insert pop remove clear update setdefault reverse sort add discard".split())
MAKERS = (ast.List, ast.Dict, ast.ListComp)
# These may change what they belong to; all other methods with two underscores are signs.
CHANGING = {"__init__", "__setitem__", "__enter__", "__exit__", "__call__", "__iter__"}
DUNDERS = set(
    "__init__ __eq__ __repr__ __str__ __len__ __enter__ __exit__ __call__ __iter__ __bool__ __contains__ "
    "__getitem__ __setitem__".split()
)
STATEMENTS = (
    ast.Assign, ast.AugAssign, ast.AnnAssign, ast.If, ast.While, ast.For, ast.Return, ast.Break, ast.Continue, ast.Pass,
    ast.Raise, ast.Assert, ast.Delete, ast.Nonlocal, ast.Match, ast.With, ast.Try, ast.Expr, ast.FunctionDef,
    ast.ClassDef, ast.ImportFrom,
)
TOP_LEVEL = (ast.ImportFrom, ast.FunctionDef, ast.ClassDef, ast.Assign, ast.Expr)


def module_of(path):
    return "placeworths" if path.stem == "__init__" else f"placeworths.{path.stem}"


class Source:
    """A file of the package, read once."""

    def __init__(self, path):
        self.path = path
        self.text = path.read_text(encoding="utf-8")
        self.tree = ast.parse(self.text)
        self.nodes = list(ast.walk(self.tree))
        self.docs = {
            id(node.body[0].value) for node in self.nodes
            if isinstance(node, (ast.Module, ast.ClassDef, ast.FunctionDef)) and node.body
            and isinstance(node.body[0], ast.Expr) and isinstance(node.body[0].value, ast.Constant)
        }

    def imports(self):
        """Pairs (module, name) of all that is imported."""
        found = [node for node in self.nodes if isinstance(node, ast.ImportFrom)]
        return [(node.module, one.name) for node in found for one in node.names]

    def top_names(self):
        """All names bound at module level by the file itself."""
        told = []
        for node in self.tree.body:
            if isinstance(node, (ast.FunctionDef, ast.ClassDef)):
                told.append(node.name)
            elif isinstance(node, ast.Assign):
                told += [target.id for target in node.targets]
        return told

    def local_names(self):
        """All parameters, local variables and nested functions."""
        told = []
        for node in self.nodes:
            if isinstance(node, ast.arg):
                told.append(node.arg)
            elif isinstance(node, ast.Name) and isinstance(node.ctx, ast.Store):
                told.append(node.id)
            elif isinstance(node, ast.FunctionDef):
                told += [one.name for part in node.body for one in ast.walk(part) if isinstance(one, ast.FunctionDef)]
        return [name for name in told if name not in self.top_names()]


SOURCES = [Source(path) for path in FILES]


def functions_by_name():
    """All functions and methods of the package, lists by their names."""
    told = {}
    for source in SOURCES:
        for node in source.nodes:
            if isinstance(node, ast.FunctionDef):
                told.setdefault(node.name, []).append(node)
    return told


def methods_of_classes():
    """Pairs of a class and the list of its methods."""
    for source in SOURCES:
        for node in source.tree.body:
            if isinstance(node, ast.ClassDef):
                yield node, [one for one in node.body if isinstance(one, ast.FunctionDef)]


def is_property(node):
    return any(isinstance(one, ast.Name) and one.id == "property" for one in node.decorator_list)


def quiet_functions():
    """What properties and signs run, with all that these call: dicts from ids to functions."""
    known = functions_by_name()
    left = [one for _, methods in methods_of_classes() for one in methods
            if is_property(one) or one.name.startswith("__") and one.name not in CHANGING]
    told = {}
    while left:
        node = left.pop()
        if id(node) in told:
            continue
        told[id(node)] = node
        for one in ast.walk(node):
            if isinstance(one, ast.Call):
                name = one.func.id if isinstance(one.func, ast.Name) else one.func.attr
                left += known.get(name, [])
            elif isinstance(one, ast.Attribute):
                left += [other for other in known.get(one.attr, []) if is_property(other)]
    return list(told.values())


def own_lists(node):
    """The local variables of a function that are assigned nothing but lists and dicts made there."""
    made, other = set(), {one.arg for one in node.args.args}
    for one in ast.walk(node):
        if isinstance(one, ast.Assign):
            for target in one.targets:
                for name in ast.walk(target):
                    if isinstance(name, ast.Name) and isinstance(name.ctx, ast.Store):
                        call = isinstance(one.value, ast.Call) and isinstance(one.value.func, ast.Name)
                        good = isinstance(one.value, MAKERS) or call and one.value.func.id in ("list", "dict", "sorted")
                        (made if good and target is name else other).add(name.id)
    return made - other


def assigned_names(node):
    """The names that a function or a comprehension assigns itself."""
    if isinstance(node, (ast.ListComp, ast.DictComp, ast.SetComp)):
        parts = [one.target for one in node.generators]
        return {one.id for part in parts for one in ast.walk(part) if isinstance(one, ast.Name)}
    told, left = {one.arg for one in node.args.args}, list(node.body)
    while left:
        part = left.pop()
        if isinstance(part, (ast.ListComp, ast.DictComp, ast.SetComp, ast.Lambda, ast.FunctionDef)):
            continue
        if isinstance(part, ast.Name) and isinstance(part.ctx, ast.Store):
            told.add(part.id)
        left += list(ast.iter_child_nodes(part))
    return told


class Language(unittest.TestCase):
    def each(self, *kinds):
        for source in SOURCES:
            for node in source.nodes:
                if isinstance(node, kinds):
                    yield source, node, f"{source.path.name}:{getattr(node, 'lineno', 0)}"

    def test_l1_l14_the_folder_has_plain_files_alone(self):
        for path in FOLDER.iterdir():
            if path.name != "__pycache__":
                self.assertRegex(path.name, r"^[a-z_][a-z0-9_]*[.]py$")
                self.assertNotIn(path.stem, set(dir(builtins)) | BARRED_ANYWHERE | {"heapq", "math", "itertools"})
        self.assertLessEqual(len(FILES), 100)

    def test_l10_l14_sizes_and_characters(self):
        for source in SOURCES:
            lines = source.text.split("\n")
            self.assertLessEqual(len(lines) - 1, 399, source.path.name)
            self.assertTrue(all(len(line) <= 120 for line in lines), source.path.name)
            self.assertTrue(all(" " <= sign <= "~" or sign == "\n" for sign in source.text), source.path.name)
        for _, node, where in self.each(ast.FunctionDef):
            self.assertLessEqual(node.end_lineno - node.lineno + 1, 40, where)

    def test_l2_l16_imports(self):
        tops = {module_of(source.path): source.top_names() for source in SOURCES}
        for source in SOURCES:
            begun = False
            for node in source.tree.body:
                if isinstance(node, ast.ImportFrom):
                    self.assertFalse(begun, source.path.name)
                elif not isinstance(node, ast.Expr):
                    begun = True
            for _, node, where in self.each(ast.Import):
                self.fail(where)
            for module, name in source.imports():
                if module in LIBRARY:
                    self.assertIn(name, LIBRARY[module].split())
                else:
                    self.assertIn(name, tops[module], source.path.name)
        for _, node, where in self.each(ast.ImportFrom):
            self.assertEqual(node.level, 0, where)
            self.assertTrue(all(one.asname is None for one in node.names), where)

    def test_l16_no_files_import_from_each_other(self):
        known = {
            module_of(source.path): {module for module, _ in source.imports()} - set(LIBRARY) for source in SOURCES
        }
        self.assertEqual(known["placeworths"], set())
        while known:
            free = [module for module in known if not known[module]]
            self.assertTrue(free, known)
            known = {module: known[module] - set(free) for module in known if module not in free}

    def test_l3_module_level(self):
        for source in SOURCES:
            names = source.top_names() + [name for _, name in source.imports()]
            self.assertEqual(len(names), len(set(names)), source.path.name)
            for node in source.tree.body:
                where = f"{source.path.name}:{node.lineno}"
                self.assertIsInstance(node, TOP_LEVEL, where)
                if isinstance(node, ast.Expr):
                    self.assertIn(id(node.value), source.docs, where)
                if isinstance(node, ast.Assign):
                    self.assertTrue(len(node.targets) == 1 and isinstance(node.targets[0], ast.Name), where)

    def test_l4_l5_decorators_parameters_and_methods(self):
        for _, node, where in self.each(ast.FunctionDef, ast.ClassDef):
            for one in node.decorator_list:
                plain = isinstance(one, ast.Name) and one.id in ("property", "staticmethod", "classmethod")
                setter = isinstance(one, ast.Attribute) and one.attr == "setter"
                self.assertTrue(plain or setter, where)
            if isinstance(node, ast.FunctionDef) and node.name.startswith("__"):
                self.assertIn(node.name, DUNDERS, where)

    def test_l6_l7_statements_and_expressions(self):
        for _, node, where in self.each(ast.stmt):
            self.assertIsInstance(node, STATEMENTS, where)
        for _, node, where in self.each(ast.Div, ast.MatMult, ast.Await, ast.GeneratorExp):
            self.fail(where)
        for _, node, where in self.each(ast.Constant):
            self.assertNotIsInstance(node.value, (float, complex), where)

    def test_l8_builtins(self):
        for source in SOURCES:
            known = set(source.top_names()) | {name for _, name in source.imports()} | set(source.local_names())
            for node in source.nodes:
                if isinstance(node, ast.Name) and isinstance(node.ctx, ast.Load) and node.id not in known:
                    self.assertIn(node.id, BUILTINS, f"{source.path.name}:{node.lineno}")

    def test_l8_l12_l15_l17_names(self):
        for source in SOURCES:
            imported = {name for _, name in source.imports()}
            classes = {node.name for node in source.tree.body if isinstance(node, ast.ClassDef)}
            inner = source.local_names()
            methods = [node.name for one in source.tree.body if isinstance(one, ast.ClassDef) for node in one.body
                       if isinstance(node, ast.FunctionDef)]
            for name in source.top_names() + inner + list(imported):
                self.assertNotIn(name, dir(builtins), source.path.name)
                self.assertNotIn(name, BARRED_ANYWHERE | BARRED_NAMES, source.path.name)
                self.assertFalse(keyword.iskeyword(name) or name.startswith(("__", *BARRED_STARTS)), name)
            for name in inner:
                self.assertNotIn(name, (imported | classes) - set(methods), source.path.name)
            for name in methods:
                self.assertNotIn(name, BARRED_ANYWHERE | BARRED_NAMES, source.path.name)
        for _, node, where in self.each(ast.Attribute):
            self.assertNotIn(node.attr, BARRED_ANYWHERE | {"format", "format_map", "args"}, where)

    def test_l17_l27_strings(self):
        for source, node, where in self.each(ast.Constant):
            if isinstance(node.value, str):
                self.assertNotIn("%", node.value, where)
                if id(node) not in source.docs:
                    self.assertIsNone(BARRED_WORDS.search(node.value), where)
                    self.assertFalse(node.value.startswith("__") and node.value.endswith("__"), where)
        for source in SOURCES:
            self.assertIsNone(re.search(r"\\[^nt\\'\"\n]", source.text), source.path.name)
            self.assertIsNone(re.search(r"_wall|_WallAttr", source.text), source.path.name)

    def test_l19_no_error_of_python_is_caught(self):
        for _, node, where in self.each(ast.ExceptHandler):
            self.assertTrue(isinstance(node.type, ast.Name) and node.type.id not in dir(builtins), where)
        for _, node, where in self.each(ast.Raise):
            made = isinstance(node.exc, ast.Call) and isinstance(node.exc.func, ast.Name)
            self.assertTrue(node.exc is None or made, where)

    def test_l20_is(self):
        for _, node, where in self.each(ast.Compare):
            for sign, other in zip(node.ops, node.comparators):
                if isinstance(sign, (ast.Is, ast.IsNot)):
                    self.assertTrue(isinstance(other, ast.Constant) and other.value in (None, True, False), where)

    def test_l22_l25_calls(self):
        own = {node.name for _, node, _ in self.each(ast.FunctionDef)}
        for _, node, where in self.each(ast.Call):
            if isinstance(node.func, ast.Attribute):
                self.assertIn(node.func.attr, METHODS | own | {"__init__"}, where)
            if isinstance(node.func, ast.Name) and node.func.id in ("all", "any", "sum", "min", "max", "sorted"):
                self.assertTrue(all(one.arg in ("key", "reverse", "default", "start") for one in node.keywords), where)

    def test_l24_sets_are_not_used(self):
        for _, node, where in self.each(ast.Set, ast.SetComp):
            self.fail(where)
        for _, node, where in self.each(ast.Call):
            self.assertFalse(isinstance(node.func, ast.Name) and node.func.id in ("set", "frozenset"), where)

    def test_l27_powers_are_literal(self):
        for _, node, where in self.each(ast.BinOp):
            if isinstance(node.op, ast.Pow):
                self.assertTrue(isinstance(node.right, ast.Constant) and 0 <= node.right.value <= 64, where)

    def test_l5_l28_properties_and_signs_change_nothing(self):
        found = quiet_functions()
        self.assertTrue(len(found) > 20)
        for node in found:
            own = own_lists(node)
            given = {one.arg for one in node.args.args}
            for one in ast.walk(node):
                where = f"{node.name}:{getattr(one, 'lineno', 0)}"
                targets = getattr(one, "targets", [getattr(one, "target", None)])
                for target in [part for target in targets if target is not None for part in ast.walk(target)]:
                    stored = isinstance(getattr(target, "ctx", None), ast.Store)
                    self.assertFalse(isinstance(target, ast.Attribute) and stored, where)
                    if isinstance(target, ast.Subscript) and stored:
                        self.assertTrue(isinstance(target.value, ast.Name) and target.value.id in own, where)
                self.assertNotIsInstance(one, (ast.Delete, ast.Nonlocal), where)
                if isinstance(one, ast.AugAssign):
                    self.assertTrue(isinstance(one.value, ast.Constant) and isinstance(one.target, ast.Name), where)
                if isinstance(one, ast.Call) and isinstance(one.func, ast.Name):
                    self.assertNotIn(one.func.id, given, where)
                if isinstance(one, ast.Call) and isinstance(one.func, ast.Attribute) and one.func.attr in MODIFIERS:
                    self.assertTrue(isinstance(one.func.value, ast.Name) and one.func.value.id in own, where)

    def test_l5_a_class_with_an_index_is_not_iterated_over(self):
        indexed = 0
        for _, methods in methods_of_classes():
            names = [one.name for one in methods]
            if "__getitem__" in names:
                indexed += 1
                walked = methods[names.index("__iter__")].body
                self.assertTrue(len(walked) == 1 and isinstance(walked[0], ast.Raise))
            for name, size in (("__getitem__", 2), ("__setitem__", 3), ("__contains__", 2), ("__len__", 1), ("__eq__", 2)):
                for one in methods:
                    if one.name == name:
                        self.assertEqual(len(one.args.args), size, name)
        self.assertEqual(indexed, 1)
        for source in SOURCES:
            self.assertIsNone(re.search(r"[(]type[)]|Meta|metaclass=", source.text), source.path.name)
            self.assertNotIn(" keys", re.sub(r"[.]keys", "", source.text), source.path.name)

    def test_l6_statements_with_their_ends(self):
        simple = (ast.Name, ast.Attribute, ast.Constant)
        ends = [(one, one.body) for _, methods in methods_of_classes() for one in methods if one.name == "__exit__"]
        ends += [(node, node.finalbody) for _, node, _ in self.each(ast.Try) if node.finalbody]
        self.assertEqual(len(ends), 2)
        for node, rows in ends:
            if isinstance(node, ast.FunctionDef):
                self.assertEqual([one.arg for one in node.args.args], ["self", "kind", "value", "trace"])
            for row in rows:
                inner = row.body if isinstance(row, ast.If) else [row]
                if isinstance(row, ast.If):
                    self.assertTrue(isinstance(row.test, ast.Compare) and isinstance(row.test.ops[0], ast.IsNot))
                for one in inner:
                    self.assertIsInstance(one, ast.Assign)
                    self.assertIsInstance(one.targets[0], ast.Attribute)
                    self.assertIsInstance(one.value, simple)
        for _, node, where in self.each(ast.With):
            self.assertIsInstance(node.items[0].context_expr, (ast.Call, ast.Name, ast.Attribute), where)

    def test_l5_l18_no_name_is_a_method_or_a_property_and_an_attribute(self):
        stored = {node.attr for _, node, _ in self.each(ast.Attribute) if isinstance(node.ctx, ast.Store)}
        read = {node.attr for _, node, _ in self.each(ast.Attribute) if isinstance(node.ctx, ast.Load)}
        methods = {one.name for _, told in methods_of_classes() for one in told}
        self.assertEqual(stored & methods, set())
        self.assertEqual(read - stored - methods - METHODS, set())
        plain = {one.name for _, told in methods_of_classes() for one in told if not is_property(one)}
        shown = {one.name for _, told in methods_of_classes() for one in told if is_property(one)}
        self.assertEqual(plain & shown, set())
        self.assertEqual(shown & METHODS, set())

    def test_l7_names_in_comprehensions(self):
        comprehensions = (ast.ListComp, ast.DictComp, ast.SetComp)

        def look(node, outer, within, where):
            for child in ast.iter_child_nodes(node):
                if isinstance(child, ast.FunctionDef):
                    look(child, assigned_names(child), False, f"{where}:{child.name}")
                elif isinstance(child, comprehensions):
                    own = assigned_names(child)
                    if within:
                        self.assertEqual(own & outer, set(), f"{where}:{child.lineno}")
                    look(child, outer | own, True, where)
                else:
                    look(child, outer, within, where)

        for source in SOURCES:
            look(source.tree, set(), False, source.path.name)

    def test_what_is_imported_is_used(self):
        for source in SOURCES:
            read = {node.id for node in source.nodes if isinstance(node, ast.Name)}
            for _, name in source.imports():
                self.assertIn(name, read, source.path.name)


if __name__ == "__main__":
    unittest.main()

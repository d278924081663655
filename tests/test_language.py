"""Some rules of LANGUAGE.md that a look at the package's files can show."""

import ast
import builtins
import pathlib
import re
import unittest

PACKAGE = pathlib.Path(__file__).resolve().parent.parent / "wrapnets"
# What the interface names as methods, of later modules too: no attribute may have such a name (L18).
METHODS = """up fall rise neighbours far next turn rows add places is_whole text copy send step frames letters heaps beat
drops told houses made learn look drop put get is_fresh takes put_room close_room enter leave move put_gate close_gate
log ground rooms hands aliases numbers edges table notes gates view ear twin batch batches say""".split()
# World has __eq__ and __len__, so none of these takes a generator expression (L7).
EAGER = ("any", "all", "min", "max", "sum", "sorted")
WORDS = re.compile(r"\b(type|typing|typing_extensions|enum|Enum|IntEnum|StrEnum|Flag|IntFlag|Generic|Protocol|ABC|ABCMeta"
                   r"|namedtuple|NamedTuple|TypedDict|TYPE_CHECKING|abstractmethod)\b|dataclass|overload|contextmanager")

# Methods of builtin values that L25 lists and that no rule bars where classes have __eq__, __len__ and add.
BUILTIN_METHODS = """append clear copy count endswith extend find get index insert isalnum isalpha isdigit islower isspace
isupper items join keys ljust lower lstrip partition pop remove replace reverse rfind rjust rpartition rsplit rstrip
setdefault split splitlines startswith strip update upper values zfill bit_length""".split()
BUILTINS = """len range enumerate zip min max sum abs sorted reversed int str bool bytes list tuple dict set isinstance ord
repr any all divmod Exception ValueError TypeError KeyError IndexError LookupError""".split()

DOUBLE = ("__init__", "__eq__", "__repr__", "__str__", "__len__", "__enter__", "__exit__", "__call__", "__iter__")
# Names that no attribute has (L26), and those that nothing has (L17).
NO_ATTRIBUTES = """items keys values pop update append clear extend insert remove reverse setdefault sort args encode decode
hex fromhex format as_integer_ratio bit_count conjugate from_bytes is_integer to_bytes format_map mro""".split()
NO_NAMES = """register mro elements open input version_info with_traceback add_note attrgetter breakpoint builtins compile
copyright credits delattr dir eval exec exit gc getattr globals hasattr help id importlib license locals methodcaller os
quit setattr super type vars sys""".split()


def files():
    return sorted(path for path in PACKAGE.iterdir() if path.name != "__pycache__")


def nodes(kind):
    for path in files():
        for node in ast.walk(ast.parse(path.read_text())):
            if isinstance(node, kind):
                yield path.name, node


class LanguageTest(unittest.TestCase):
    def test_files(self):
        for path in files():
            with self.subTest(path.name):
                self.assertRegex(path.name, r"^[a-z0-9_]+\.py$")
                text = path.read_text()
                self.assertRegex(text, r"\A[ -~\n]*\Z")
                self.assertLessEqual(len(text.splitlines()), 400)
                self.assertLessEqual(max(map(len, text.splitlines())), 120)
                self.assertIsNone(WORDS.search(text))

    def test_functions_are_short(self):
        for name, node in nodes(ast.FunctionDef):
            self.assertLessEqual(node.end_lineno - node.lineno + 1, 40, (name, node.name))

    def test_imports_are_from_the_package(self):
        self.assertEqual(list(nodes(ast.Import)), [])
        for name, node in nodes(ast.ImportFrom):
            self.assertRegex(node.module, r"^wrapnets\.[a-z_]+$")
            self.assertEqual(node.level, 0)

    def test_no_name_is_a_method_and_an_attribute(self):
        methods = set(METHODS)
        for name, node in nodes(ast.ClassDef):
            methods |= {row.name for row in node.body if isinstance(row, ast.FunctionDef)}
        for name, node in nodes(ast.Attribute):
            if isinstance(node.ctx, ast.Store):
                self.assertNotIn(node.attr, methods, name)

    def test_no_generator_expression_where_a_list_is_due(self):
        for name, node in nodes(ast.Call):
            if isinstance(node.func, ast.Name) and node.func.id in EAGER:
                self.assertFalse([part for part in node.args if isinstance(part, ast.GeneratorExp)], name)

    def test_barred_statements_and_signs(self):
        self.assertEqual(list(nodes((ast.Global, ast.AsyncFunctionDef, ast.Div, ast.Set))), [])
        for name, node in nodes(ast.Compare):
            for sign, other in zip(node.ops, node.comparators):
                if isinstance(sign, (ast.Is, ast.IsNot)):
                    self.assertIn(getattr(other, "value", "a name"), (None, True, False), name)

    def test_module_level(self):
        allowed = (ast.ImportFrom, ast.FunctionDef, ast.ClassDef, ast.Assign)
        for path in files():
            rows = ast.parse(path.read_text()).body
            self.assertTrue(ast.get_docstring(ast.parse(path.read_text())), path.name)
            for row in rows[1:]:
                self.assertIsInstance(row, allowed, path.name)
            names = [row.name for row in rows if isinstance(row, (ast.FunctionDef, ast.ClassDef))]
            names += [part.id for row in rows if isinstance(row, ast.Assign) for part in row.targets]
            names += [part.name for row in rows if isinstance(row, ast.ImportFrom) for part in row.names]
            self.assertEqual(sorted(names), sorted(set(names)), path.name)

    def test_local_names_are_no_builtins_and_no_imports(self):
        for path in files():
            tree = ast.parse(path.read_text())
            taken = {part.name for row in tree.body if isinstance(row, ast.ImportFrom) for part in row.names}
            taken |= {row.name for row in tree.body if isinstance(row, ast.ClassDef)} | set(dir(builtins))
            for node in ast.walk(tree):
                name = node.arg if isinstance(node, ast.arg) else getattr(node, "id", None)
                if isinstance(node, ast.arg) or isinstance(getattr(node, "ctx", None), (ast.Store, ast.Del)):
                    self.assertNotIn(name, taken, path.name)
                    self.assertFalse((name or "x").startswith("_"), path.name)

    def test_attributes_that_are_read_are_assigned_and_methods_are_known(self):
        stored = {node.attr for name, node in nodes(ast.Attribute) if isinstance(node.ctx, ast.Store)}
        own = {row.name for name, node in nodes(ast.ClassDef) for row in node.body if isinstance(row, ast.FunctionDef)}
        for path in files():
            tree = ast.parse(path.read_text())
            called = {node.func for node in ast.walk(tree) if isinstance(node, ast.Call)}
            for node in ast.walk(tree):
                if isinstance(node, ast.Attribute):
                    known = own | set(BUILTIN_METHODS) if node in called else stored
                    self.assertIn(node.attr, known, path.name)

    def test_builtins_that_are_called(self):
        for path in files():
            for node in ast.walk(ast.parse(path.read_text())):
                if isinstance(node, ast.Name) and node.id in dir(builtins):
                    self.assertIn(node.id, BUILTINS, path.name)

    def test_strings_and_escapes(self):
        for path in files():
            self.assertNotIn("%", path.read_text())
            self.assertNotRegex(path.read_text(), r"\\[^nt\\'\"]")

    def test_imports_do_not_go_round(self):
        leads = {path.stem: set() for path in files()}
        for name, node in nodes(ast.ImportFrom):
            leads[name[:-3]].add(node.module.split(".")[1])
        while leads:
            ends = [name for name in leads if not leads[name] & set(leads)]
            self.assertTrue(ends, leads)
            for name in ends:
                del leads[name]

    def test_errors_are_own_ones_and_made_on_the_spot(self):
        own = {node.name for name, node in nodes(ast.ClassDef)}
        for name, node in nodes(ast.ExceptHandler):
            self.assertIsInstance(node.type, ast.Name, name)
            self.assertIn(node.type.id, own, name)
        for name, node in nodes(ast.Raise):
            self.assertIsInstance(node.exc, ast.Call, name)
            self.assertIn(node.exc.func.id, own, name)
            self.assertIsInstance(node.cause, (ast.Name, type(None)), name)

    def test_what_stands_in_a_finally(self):
        for name, node in nodes(ast.Try):
            for row in node.finalbody:
                if isinstance(row, ast.Expr):
                    self.assertEqual(row.value.func.attr, "append", name)
                    parts = ast.walk(row.value.args[0])
                else:
                    self.assertIsInstance(row, ast.Assign, name)
                    parts = ast.walk(row.value)
                for part in parts:
                    self.assertIsInstance(part, (ast.Name, ast.Attribute, ast.Constant, ast.Tuple, ast.Load), name)

    def test_names_of_methods_and_attributes(self):
        for name, node in nodes(ast.ClassDef):
            self.assertEqual(node.decorator_list, [], name)
            for row in node.body:
                if isinstance(row, ast.FunctionDef):
                    self.assertEqual(row.decorator_list, [], name)
                    self.assertTrue(row.name in DOUBLE or not row.name.startswith("_"), name)
                    self.assertNotIn(row.name, NO_NAMES, name)
        for name, node in nodes(ast.Attribute):
            if isinstance(node.ctx, ast.Store):
                self.assertNotIn(node.attr, NO_ATTRIBUTES, name)
        for name, node in nodes((ast.FunctionDef, ast.arg)):
            self.assertNotIn(node.arg if isinstance(node, ast.arg) else node.name, NO_NAMES, name)

    def test_parameters_and_defaults(self):
        for name, node in nodes(ast.FunctionDef):
            self.assertEqual((node.args.posonlyargs, node.args.vararg, node.args.kwarg), ([], None, None), name)
            for part in node.args.defaults + [part for part in node.args.kw_defaults if part]:
                self.assertIsInstance(part, (ast.Constant, ast.Name), name)

    def test_dicts_and_lists_at_module_level_have_none_in_them(self):
        for path in files():
            for row in ast.parse(path.read_text()).body:
                if isinstance(row, ast.Assign) and isinstance(row.value, (ast.Dict, ast.List)):
                    inner = [part for part in ast.walk(row.value) if isinstance(part, (ast.Dict, ast.List))]
                    self.assertEqual(len(inner), 1, path.name)

    def test_own_functions_and_classes_are_called_with_as_many_things_as_they_take(self):
        takes = {}
        for name, node in nodes(ast.ClassDef):
            for row in node.body:
                if isinstance(row, ast.FunctionDef):
                    takes.setdefault(node.name if row.name == "__init__" else row.name, []).append((row.args, 1))
        for path in files():
            for row in ast.parse(path.read_text()).body:
                if isinstance(row, ast.FunctionDef):
                    takes.setdefault(row.name, []).append((row.args, 0))
        for name, node in nodes(ast.Call):
            called = node.func.id if isinstance(node.func, ast.Name) else node.func.attr
            if called in takes and not [part for part in node.args if isinstance(part, ast.Starred)]:
                own = 1 if called == "__init__" else 0
                many = len(node.args) - own
                fits = [
                    len(args.args) - first - len(args.defaults) <= many <= len(args.args) - first
                    for args, first in takes[called]
                ]
                self.assertTrue(any(fits) or called in BUILTIN_METHODS, (name, called))

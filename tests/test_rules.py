"""Those rules for the files of the package that can be looked up plainly."""

import ast
import builtins
import pathlib
import re
import unittest

PACKAGE = pathlib.Path(__file__).resolve().parent.parent / "owntimes"
LIBRARY = {"math": {"gcd", "lcm"}}
BUILTINS = set(
    "len range enumerate zip min max sum abs sorted reversed int str bool bytes list tuple dict set isinstance "
    "ord repr any all divmod pow property classmethod staticmethod super Exception ValueError TypeError "
    "KeyError IndexError LookupError ZeroDivisionError ArithmeticError OverflowError RuntimeError "
    "NotImplementedError".split()
)
METHODS = set(
    "append clear copy count endswith extend find get index insert isalnum isalpha isdigit islower isspace "
    "isupper items join keys ljust lower lstrip partition pop remove replace reverse rfind rjust rpartition "
    "rsplit rstrip setdefault split splitlines startswith strip update upper values zfill bit_length isascii "
    "removeprefix removesuffix".split()
)
NO_WORDS = re.compile(
    r"\b(register|mro|elements|open|input|law|version_info|with_traceback|add_note|breakpoint|compile|copyright|credits"
    r"|dir|eval|exec|exit|globals|help|id|license|locals|os|quit|vars|enum|Enum|IntEnum|StrEnum|Flag|IntFlag|Generic"
    r"|Protocol|ABC|ABCMeta|typing|namedtuple|NamedTuple|TypedDict|abstractmethod|Meta|attrgetter|methodcaller)\b"
    r"|dataclass|overload|contextmanager|\(type\)|metaclass="
)
# Where the interface lists its classes and functions.
DEFINED = {
    "lagsets.py": ("Lags",), "lines.py": ("Station", "Link", "Line"), "stuck.py": ("rings", "stuck"),
    "moments.py": ("moments", "end", "whole_end", "events", "under_way"),
    "orders.py": ("order_lags", "outlet_lags", "reaching", "in_sequence"),
    "overlap.py": ("may_overlap", "most_at_once", "overlapping"),
    "comparing.py": ("never_later", "later_case", "same", "times_of"),
    "factors.py": ("factor", "beyond", "head_start"),
    "matters.py": ("idle_links", "idle_stations", "enough_stock", "enough_hands"),
    "tables.py": ("table",), "books.py": ("Book",), "checker.py": ("accepts",),
    "certificates.py": ("certify_later", "certify_never_later", "certify_at_once"),
}


class RulesTest(unittest.TestCase):
    def setUp(self):
        self.texts = {path: path.read_text(encoding="utf-8") for path in sorted(PACKAGE.rglob("*.py"))}
        self.trees = {path: ast.parse(text) for path, text in self.texts.items()}

    def nodes(self, *kinds):
        for path, tree in self.trees.items():
            for node in ast.walk(tree):
                if isinstance(node, kinds):
                    yield path.name, node

    def test_the_folder_has_python_files_alone(self):
        names = [path.name for path in PACKAGE.iterdir() if path.name != "__pycache__"]
        self.assertIn("__init__.py", names)
        self.assertEqual([name for name in names if not name.endswith(".py")], [])

    def test_characters_and_sizes(self):
        for path, text in self.texts.items():
            lines = text.split("\n")
            self.assertLessEqual(len(lines) - 1, 399, path)
            self.assertLessEqual(max(len(line) for line in lines), 120, path)
            self.assertTrue(all(sign == "\n" or " " <= sign <= "~" for sign in text), path)
        for name, node in self.nodes(ast.FunctionDef):
            self.assertLessEqual(node.end_lineno - node.lineno + 1, 40, (name, node.name))

    def test_imports(self):
        self.assertEqual(list(self.nodes(ast.Import, ast.Global, ast.AsyncFunctionDef)), [])
        for name, node in self.nodes(ast.ImportFrom):
            if node.module in LIBRARY:
                self.assertLessEqual({alias.name for alias in node.names}, LIBRARY[node.module], name)
            else:
                self.assertTrue(node.module.startswith("owntimes."), name)

    def test_strings_and_numbers(self):
        for name, node in self.nodes(ast.Constant):
            self.assertNotIsInstance(node.value, (float, complex), name)
            if isinstance(node.value, str):
                self.assertNotIn("%", node.value, name)

    def test_names(self):
        for path, tree in self.trees.items():
            kept = {alias.name for node in ast.walk(tree) if isinstance(node, ast.ImportFrom) for alias in node.names}
            kept |= {node.name for node in ast.walk(tree) if isinstance(node, ast.ClassDef)}
            for node in ast.walk(tree):
                if isinstance(node, ast.Name) and isinstance(node.ctx, ast.Load):
                    self.assertTrue(node.id in BUILTINS or not hasattr(builtins, node.id), (path.name, node.id))
                name = node.arg if isinstance(node, ast.arg) else ""
                if isinstance(node, ast.Name) and isinstance(node.ctx, ast.Store):
                    name = node.id
                self.assertFalse(hasattr(builtins, name) or name in kept, (path.name, name))
            self.assertIsNone(NO_WORDS.search(self.texts[path]), path.name)

    def test_imports_name_the_file_that_defines(self):
        defined = {}
        for path, tree in self.trees.items():
            names = {node.name for node in tree.body if isinstance(node, (ast.FunctionDef, ast.ClassDef))}
            names |= {node.targets[0].id for node in tree.body if isinstance(node, ast.Assign)}
            defined[f"owntimes.{path.stem}"] = names
            self.assertLessEqual(set(DEFINED.get(path.name, ())), names)
        for name, node in self.nodes(ast.ImportFrom):
            if node.module not in LIBRARY:
                self.assertLessEqual({alias.name for alias in node.names}, defined[node.module], name)

    def test_no_two_files_import_from_each_other(self):
        needed = {path.stem: set() for path in self.trees}
        for name, node in self.nodes(ast.ImportFrom):
            if node.module not in LIBRARY:
                needed[name.removesuffix(".py")].add(node.module.removeprefix("owntimes."))
        done = set()
        while len(done) < len(needed):
            free = {name for name, names in needed.items() if name not in done and names <= done}
            self.assertTrue(free, set(needed) - done)
            done |= free

    def test_methods(self):
        own = {node.name for _, node in self.nodes(ast.FunctionDef)}
        for name, node in self.nodes(ast.Call):
            if isinstance(node.func, ast.Attribute):
                self.assertIn(node.func.attr, METHODS | own, name)

    def test_what_operators_run_calls_no_attribute(self):
        functions, held = {}, set()
        for _, node in self.nodes(ast.FunctionDef):
            functions.setdefault(node.name, []).append(node)
        for _, node in self.nodes(ast.Attribute):
            if isinstance(node.ctx, ast.Store):
                held.add(node.attr)
        todo = [
            node for name, nodes in functions.items() for node in nodes
            if (name.startswith("__") and name not in ("__init__", "__enter__", "__exit__", "__setitem__"))
            or any(isinstance(sign, ast.Name) and sign.id == "property" for sign in node.decorator_list)
        ]
        seen = set()
        while todo:
            node = todo.pop()
            if id(node) in seen:
                continue
            seen.add(id(node))
            given = {arg.arg for arg in node.args.args}
            for call in [part for part in ast.walk(node) if isinstance(part, ast.Call)]:
                name = getattr(call.func, "attr", getattr(call.func, "id", None))
                if isinstance(call.func, ast.Attribute):
                    self.assertNotIn(name, held, (node.name, call.lineno))
                else:
                    self.assertNotIn(name, given, (node.name, call.lineno))
                todo.extend(functions.get(name, ()))
        self.assertGreater(len(seen), 40)

    def test_ranges_and_their_kin_are_not_passed_on(self):
        takers = ("list", "tuple", "dict", "sorted", "sum", "any", "all", "enumerate", "zip", "min", "max", "len")
        for name, node in self.nodes(ast.Call):
            for part in node.args:
                inner = part.func if isinstance(part, ast.Call) else None
                if isinstance(inner, ast.Name) and inner.id in ("range", "zip", "enumerate", "reversed"):
                    self.assertTrue(isinstance(node.func, ast.Name) and node.func.id in takers, (name, node.lineno))

    def test_any_and_its_kin_take_lists(self):
        for name, node in self.nodes(ast.Call):
            if isinstance(node.func, ast.Name) and node.func.id in ("any", "all", "min", "max", "sum", "sorted"):
                self.assertNotIsInstance(node.args[0], ast.GeneratorExp, name)


if __name__ == "__main__":
    unittest.main()

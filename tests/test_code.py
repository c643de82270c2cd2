"""The interface stands where the document lists it, and the code keeps to rules that a test can see."""

import ast
import builtins
import pathlib
import re
import unittest

PACKAGE = pathlib.Path(__file__).resolve().parent.parent / "roofsights"
FILES = sorted(PACKAGE.glob("*.py"))

INTERFACE = {
    "errors": {
        "RoofError": None, "NoHeights": None, "NoNumber": None, "NoLot": None, "NoHouse": None, "NoCounts": None,
        "NoPlace": None, "NoHeight": None, "Taken": None, "Full": None, "NothingLeft": None,
    },
    "sights": {
        "are_heights": ["thing"], "sights": ["heights"], "can_be": ["many", "lot"], "what_bars": ["many", "lot"],
        "bars": ["many", "lot", "thing"],
    },
    "orders": {
        "how_many": ["many", "lot"], "first_order": ["many", "lot"], "highest": ["many", "lot"],
        "higher": ["many", "lot", "one", "other"], "from_ends": ["many", "lot"],
    },
    "known": {
        "lots_with": ["many", "seen", "unseen"], "orders_with": ["many", "seen", "unseen"],
        "first_with": ["many", "seen", "unseen"], "sure": ["many", "seen", "unseen"],
    },
    "counted": {"lots_of": ["number"], "by_counts": ["counts"]},
    "streets": {"Street": None},
}

STREET_METHODS = {
    "__init__": ["self"], "build": ["self", "place", "height"], "pull": ["self", "house"], "back": ["self"],
    "heights": ["self"], "sights": ["self"], "from_ends": ["self"], "__len__": ["self"], "__eq__": ["self", "other"],
}

BARRED_WORDS = re.compile(
    r"\b(type|typing|typing_extensions|enum|Enum|IntEnum|StrEnum|Flag|IntFlag|Generic|Protocol|ABC|ABCMeta|namedtuple"
    r"|NamedTuple|TypedDict|TYPE_CHECKING|abstractmethod)\b|dataclass|overload|contextmanager"
)
BUILTINS = set(
    "len range enumerate zip min max sum abs sorted reversed int str bool bytes list tuple dict set isinstance ord"
    " repr any all divmod".split()
)
LIST_TAKERS = ("any", "all", "min", "max", "sum", "sorted")


def parsed(path):
    return ast.parse(path.read_text(encoding="utf-8"))


def defined(path):
    return {node.name: node for node in parsed(path).body if isinstance(node, (ast.FunctionDef, ast.ClassDef))}


class InterfaceTest(unittest.TestCase):
    def test_each_name_is_defined_in_its_own_file(self):
        for name, parts in INTERFACE.items():
            found = defined(PACKAGE / (name + ".py"))
            for part, arguments in parts.items():
                self.assertIn(part, found)
                if arguments is None:
                    self.assertIsInstance(found[part], ast.ClassDef)
                else:
                    self.assertEqual([argument.arg for argument in found[part].args.args], arguments)

    def test_each_method_is_defined_in_the_class_itself(self):
        street = defined(PACKAGE / "streets.py")["Street"]
        found = {node.name: node for node in street.body if isinstance(node, ast.FunctionDef)}
        for name, arguments in STREET_METHODS.items():
            self.assertIn(name, found)
            self.assertEqual([argument.arg for argument in found[name].args.args], arguments)


class RulesTest(unittest.TestCase):
    def test_only_plain_files(self):
        for path in PACKAGE.iterdir():
            if path.name != "__pycache__":
                self.assertRegex(path.name, r"^[a-z0-9_]+\.py$")

    def test_characters_and_sizes(self):
        for path in FILES:
            text = path.read_text(encoding="utf-8")
            self.assertIsNone(re.search(r"[^ -~\n]", text), path)
            self.assertIsNone(BARRED_WORDS.search(text), path)
            lines = text.split("\n")
            self.assertLess(len(lines), 400, path)
            self.assertLessEqual(max(len(line) for line in lines), 120, path)
            for node in ast.walk(parsed(path)):
                if isinstance(node, ast.FunctionDef):
                    self.assertLessEqual(node.end_lineno - node.lineno + 1, 40, node.name)

    def test_imports_are_from_the_defining_file(self):
        for path in FILES:
            for node in ast.walk(parsed(path)):
                self.assertNotIsInstance(node, ast.Import, path)
                if isinstance(node, ast.ImportFrom):
                    self.assertRegex(node.module, r"^roofsights\.[a-z0-9_]+$")
                    source = PACKAGE / (node.module.split(".")[1] + ".py")
                    own = set(defined(source)) | {
                        target.id for part in parsed(source).body if isinstance(part, ast.Assign)
                        for target in part.targets
                    }
                    for name in node.names:
                        self.assertIn(name.name, own, path)

    def test_names_have_one_meaning(self):
        for path in FILES:
            tree = parsed(path)
            imports = [node for node in tree.body if isinstance(node, ast.ImportFrom)]
            top = [name.asname or name.name for node in imports for name in node.names]
            top += [node.name for node in tree.body if isinstance(node, (ast.FunctionDef, ast.ClassDef))]
            top += [target.id for node in tree.body if isinstance(node, ast.Assign) for target in node.targets]
            self.assertEqual(len(top), len(set(top)), path)
            inner = {node.arg for node in ast.walk(tree) if isinstance(node, ast.arg)}
            inner |= {
                node.id for part in tree.body if isinstance(part, (ast.FunctionDef, ast.ClassDef))
                for node in ast.walk(part) if isinstance(node, ast.Name) and isinstance(node.ctx, ast.Store)
            }
            self.assertTrue(inner.isdisjoint(top), (path, inner & set(top)))
            self.assertTrue((inner | set(top)).isdisjoint(dir(builtins)), path)

    def test_calls_of_known_builtins_only(self):
        for path in FILES:
            tree = parsed(path)
            own = {node.name for node in ast.walk(tree) if isinstance(node, (ast.FunctionDef, ast.ClassDef))}
            own |= {name.name for node in ast.walk(tree) if isinstance(node, ast.ImportFrom) for name in node.names}
            for node in ast.walk(tree):
                if isinstance(node, ast.Call) and isinstance(node.func, ast.Name):
                    self.assertIn(node.func.id, own | BUILTINS, path)
                    if node.func.id in LIST_TAKERS:
                        self.assertNotIsInstance(node.args[0], ast.GeneratorExp, (path, node.lineno))

    def test_no_barred_parts_of_python(self):
        barred = (ast.Global, ast.AsyncFunctionDef, ast.Await, ast.Div, ast.Yield, ast.YieldFrom, ast.Lambda)
        for path in FILES:
            for node in ast.walk(parsed(path)):
                self.assertNotIsInstance(node, barred, path)
                if isinstance(node, ast.Constant):
                    self.assertNotIsInstance(node.value, float, path)
                    if isinstance(node.value, str):
                        self.assertNotIn("%", node.value, path)
                if isinstance(node, ast.Name):
                    self.assertFalse(node.id.startswith("_"), path)


if __name__ == "__main__":
    unittest.main()

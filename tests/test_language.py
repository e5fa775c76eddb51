"""Those rules of ../shared/LANGUAGE.md that a short look at the package's files can see."""

import ast
import importlib
import pathlib
import re
import unittest
import warnings

FOLDER = pathlib.Path(__file__).resolve().parent.parent / "lateboxes"
FILES = sorted(FOLDER.glob("*.py"))
LIBRARY = {"heapq", "math", "itertools"}
BUILTINS = set("""
    len range enumerate zip min max sum abs sorted reversed int str bool list tuple dict set
    isinstance ord repr any all divmod iter next map super ValueError KeyError True False None
""".split())
BARRED = set("""
    register mro elements open input law version_info typing typing_extensions enum Enum
    IntEnum StrEnum Flag IntFlag Generic Protocol ABC ABCMeta namedtuple NamedTuple TypedDict
    TYPE_CHECKING abstractmethod dataclass overload contextmanager global async float
""".split())


def functions(tree):
    return [node for node in ast.walk(tree) if isinstance(node, ast.FunctionDef)]


def bound(tree):
    """All names that a file binds, anywhere in it."""
    names = {node.id for node in ast.walk(tree)
             if isinstance(node, ast.Name) and not isinstance(node.ctx, ast.Load)}
    names |= {node.arg for node in ast.walk(tree) if isinstance(node, ast.arg)}
    names |= {node.name for node in ast.walk(tree)
              if isinstance(node, (ast.FunctionDef, ast.ClassDef))}
    return names | imported(tree)


def imported(tree):
    return {alias.name for node in ast.walk(tree) if isinstance(node, ast.ImportFrom)
            for alias in node.names}


class Language(unittest.TestCase):
    def each(self):
        self.assertGreater(len(FILES), 4)
        for path in FILES:
            text = path.read_text(encoding="utf-8")
            yield path.name, text, ast.parse(text)

    def test_the_folder_holds_nothing_else(self):
        held = [path for path in FOLDER.iterdir() if path.name != "__pycache__"]
        self.assertEqual(sorted(held), FILES)

    def test_sizes(self):
        for name, text, tree in self.each():
            lines = text.split("\n")
            self.assertLessEqual(len(lines), 399, name)
            self.assertLessEqual(max(len(line) for line in lines), 120, name)
            for node in functions(tree):
                self.assertLessEqual(node.end_lineno - node.lineno + 1, 40, node.name)

    def test_characters(self):
        for name, text, tree in self.each():
            self.assertEqual(re.findall(r"[^ -~\n]", text), [], name)
            for node in ast.walk(tree):
                if isinstance(node, ast.Constant) and isinstance(node.value, str):
                    self.assertNotIn("%", node.value, name)

    def test_imports(self):
        for name, text, tree in self.each():
            for node in ast.walk(tree):
                self.assertNotIsInstance(node, ast.Import, name)
                if isinstance(node, ast.ImportFrom):
                    self.assertEqual(node.level, 0, name)
                    home = node.module.split(".")
                    self.assertTrue(home[0] == "lateboxes" or node.module in LIBRARY, name)
                    self.assertTrue(all(alias.asname is None for alias in node.names), name)
                    if home[0] == "lateboxes":
                        self.defined(home[1], [alias.name for alias in node.names])

    def defined(self, module, names):
        """Names are imported from the very file that defines them."""
        tree = ast.parse((FOLDER / (module + ".py")).read_text(encoding="utf-8"))
        self.assertEqual(set(names) - (bound(tree) - imported(tree)), set())

    def test_names(self):
        for name, text, tree in self.each():
            names = bound(tree)
            self.assertEqual(names & BUILTINS, set(), name)
            loaded = {node.id for node in ast.walk(tree) if isinstance(node, ast.Name)}
            self.assertEqual(loaded - names - BUILTINS, set(), name)
            words = {word for node in ast.walk(tree) for word in self.words(node)}
            self.assertEqual(words & BARRED, set(), name)

    def words(self, node):
        for name in ("id", "name", "attr", "arg"):
            told = getattr(node, name, None)
            if isinstance(told, str):
                yield told

    def test_no_local_name_is_an_import(self):
        for name, text, tree in self.each():
            taken = imported(tree) | {node.name for node in tree.body
                                      if isinstance(node, ast.ClassDef)}
            for function in functions(tree):
                local = bound(function) - {function.name}
                self.assertEqual(local & taken, set(), function.name)

    def test_nothing_is_warned_of(self):
        for name, text, tree in self.each():
            with warnings.catch_warnings():
                warnings.simplefilter("error")
                compile(text, name, "exec")

    def test_no_files_import_from_each_other(self):
        leads = {}
        for name, text, tree in self.each():
            leads[name[:-3]] = {node.module.split(".")[1] for node in ast.walk(tree)
                                if isinstance(node, ast.ImportFrom)
                                and node.module.startswith("lateboxes.")}
        while leads:
            last = [name for name in leads if not leads[name] & set(leads)]
            self.assertNotEqual(last, [], leads)
            for gone in last:
                del leads[gone]


class Interface(unittest.TestCase):
    LISTED = {
        "runs": {"run": ("program", "mill", "cells", "fuel")},
        "looks": {"look": ("program", "mill")},
        "pieces": {"blocks": ("program",), "ties": ("piece", "mill"),
                   "kept": ("piece", "mill", "starts")},
        "fewest": {"least": ("piece", "mill"), "shows": ("piece", "mill", "many", "paper")},
        "fits": {"fitted": ("program", "mill"), "packed": ("program", "mill")},
        "notes": {"written": ("program",), "read": ("text",)},
    }

    def test_names_stand_where_the_document_lists_them(self):
        for name, listed in self.LISTED.items():
            tree = ast.parse((FOLDER / (name + ".py")).read_text(encoding="utf-8"))
            defined = {node.name for node in tree.body if isinstance(node, ast.FunctionDef)}
            self.assertEqual(set(listed) - defined, set())

    def test_arguments_are_handed_in_by_their_places(self):
        for name, listed in self.LISTED.items():
            module = importlib.import_module("lateboxes." + name)
            for function, arguments in listed.items():
                code = getattr(module, function).__code__
                self.assertEqual(code.co_varnames[:code.co_argcount], arguments)


if __name__ == "__main__":
    unittest.main()

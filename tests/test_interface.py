"""The names, files and arguments of the interface, and plain rules of the subset of Python."""

import ast
import importlib
import inspect
import pathlib
import unittest

PACKAGE = pathlib.Path(__file__).resolve().parent.parent / "byhalves"

FUNCTIONS = {
    "books": {"made_book": "thing", "is_book": "thing", "plain": "steps", "made_line": "book thing", "total": "book"},
    "moves": {"made_history": "book thing"},
    "tables": {"made_table": "book thing", "table_player": "book table"},
    "runs": {
        "run": "book player history",
        "strays": "book state",
        "stray": "book line state",
        "within": "book player history bound",
    },
    "halves": {"halves": "book ties"},
    "gaps": {"gap": "book line i"},
    "packings": {"packing": "book line", "reach": "book line", "off": "book line"},
    "papers": {"paper_right": "book line player bound paper"},
    "breaker": {"breaker": "book line player bound", "off_history": "book line player bound"},
    "leads": {"made_leads": "book thing", "best_leads": "book"},
    "groups": {"grouped": "book leads"},
    "owntotals": {"least_own": "book q", "own_total": "book state q"},
    "closing": {"safe": "book line bound off", "can_keep": "book line bound off", "least_off": "book line bound"},
    "keepers": {"keeper": "book line bound off"},
    "publishers": {"made_names": "book names", "made_publisher": "book names thing"},
    "programs": {
        "program": "book names publisher",
        "program_at": "book names publisher state",
        "told": "book names publisher state move",
    },
    "judging": {
        "judge": "book player bound history",
        "spread": "book line player histories",
        "lines_off": "book lines player history",
    },
    "logs": {"log_of": "book player history", "audit": "book lines bound log", "fits": "book player log"},
    "reports": {"report": "book names lines state"},
    "reader": {"read_publisher": "book names text"},
    "readbooks": {
        "read_book": "text",
        "read_line": "book names text",
        "read_history": "book names text",
        "read_paper": "book names text",
    },
    "printer": {
        "print_book": "book names",
        "print_publisher": "book names publisher",
        "print_line": "book names line",
        "print_history": "book names history",
        "print_paper": "book names paper",
    },
}

CLASSES = {
    ("feeds", "Feed"): {
        "__init__": "self, book, player",
        "move": "self, part, way, many=1",
        "correct": "self, index, moves",
        "editions": "self",
        "history": "self, edition=None",
        "state": "self, edition=None",
        "log": "self, edition=None",
        "differences": "self, one, other",
    },
    ("desk", "Desk"): {
        "__init__": "self, names, book",
        "publisher": "self, word, publisher",
        "line": "self, word, line",
        "begin": "self, feed, word",
        "feed": "self, word",
        "report": "self, word",
        "wrongs": "self, word, bound",
        "paper": "self, word, line, bound",
        "off": "self, line",
        "spread": "self, line",
        "row": "self, text",
    },
}

ERRORS = (
    "Refused BadBook BadLine BadHistory BadHistories BadBound BadTies BadPart BadLeads BadState Broken TooLarge "
    "NotAlike NotPlain NoKeeper BadNames BadPublisher TooMany BadLog BadMany BadIndex BadEdition BadName NoWord Twice BadText "
    "NoName BadNumber TooDeep BadPaper BadTable"
).split()


def sources():
    return [(path, path.read_text(encoding="utf-8")) for path in sorted(PACKAGE.rglob("*.py"))]


class InterfaceTest(unittest.TestCase):
    def test_functions_and_their_arguments(self):
        for file, functions in FUNCTIONS.items():
            module = importlib.import_module("byhalves." + file)
            for name, arguments in functions.items():
                with self.subTest(file=file, name=name):
                    function = getattr(module, name)
                    self.assertEqual(function.__module__, module.__name__)
                    self.assertEqual(list(inspect.signature(function).parameters), arguments.split())

    def test_classes_and_their_methods(self):
        for (file, name), methods in CLASSES.items():
            module = importlib.import_module("byhalves." + file)
            self.assertEqual(getattr(module, name).__module__, module.__name__)
            own = vars(getattr(module, name))
            for method, arguments in methods.items():
                with self.subTest(file=file, name=name, method=method):
                    self.assertEqual(str(inspect.signature(own[method])), f"({arguments})")

    def test_errors(self):
        module = importlib.import_module("byhalves.errors")
        for name in ERRORS:
            with self.subTest(name):
                self.assertEqual(getattr(module, name).__module__, module.__name__)
                self.assertEqual(str(inspect.signature(getattr(module, name))), "(what)")

    def test_names_are_defined_in_their_own_files(self):
        for file in [*FUNCTIONS, *(file for file, _ in CLASSES)]:
            tree = ast.parse((PACKAGE / (file + ".py")).read_text(encoding="utf-8"))
            defined = {node.name for node in tree.body if isinstance(node, (ast.FunctionDef, ast.ClassDef))}
            wanted = {*FUNCTIONS.get(file, ()), *(name for other, name in CLASSES if other == file)}
            with self.subTest(file):
                self.assertLessEqual(wanted, defined)

    def test_players_have_their_methods_themselves(self):
        from byhalves.books import plain
        from byhalves.groups import grouped
        from byhalves.halves import halves
        from byhalves.keepers import keeper
        from byhalves.programs import program, program_at
        from byhalves.tables import table_player

        book = plain((4,))
        stay, empty = ((), 0), ((), (), ())
        programs = (program(book, ("a",), empty), program_at(book, ("a",), empty, ((0,), (0,), (), ())))
        for player in programs:
            self.assertEqual(list(inspect.signature(vars(player.__class__)["state"]).parameters), ["self"])
        for player in (
            halves(book, (0,)), table_player(book, ((stay, stay),)), grouped(book, (0,)), keeper(book, (1,), 4, 4),
            *programs
        ):
            own = vars(player.__class__)
            self.assertEqual(list(inspect.signature(own["copy"]).parameters), ["self"])
            self.assertEqual(list(inspect.signature(own["moved"]).parameters), ["self", "part", "way"])


class SubsetTest(unittest.TestCase):
    def test_the_folder_holds_python_files_alone(self):
        self.assertTrue((PACKAGE / "__init__.py").is_file())
        for path in PACKAGE.rglob("*"):
            if "__pycache__" not in path.parts:
                self.assertTrue(path.is_dir() or path.suffix == ".py", path)

    def test_sizes_and_signs(self):
        for path, text in sources():
            with self.subTest(path.name):
                self.assertLessEqual(len(text.splitlines()), 399)
                self.assertLessEqual(max(map(len, text.splitlines())), 120)
                self.assertTrue(all(sign == "\n" or " " <= sign <= "~" for sign in text))

    def test_functions_are_short(self):
        for path, text in sources():
            for node in ast.walk(ast.parse(text)):
                if isinstance(node, ast.FunctionDef):
                    with self.subTest(path.name, function=node.name):
                        self.assertLessEqual(node.end_lineno - node.lineno + 1, 40)

    def test_imports_name_the_file_that_defines(self):
        library = {"heapq", "math", "itertools", "collections"}
        for path, text in sources():
            for node in ast.walk(ast.parse(text)):
                self.assertNotIsInstance(node, ast.Import, path.name)
                if isinstance(node, ast.ImportFrom) and node.module not in library:
                    module = importlib.import_module(node.module)
                    for alias in node.names:
                        with self.subTest(path.name, name=alias.name):
                            self.assertEqual(node.level, 0)
                            told = getattr(module, alias.name)
                            self.assertEqual(getattr(told, "__module__", node.module), node.module)


if __name__ == "__main__":
    unittest.main()

"""The form of the source: what can be told of it without reading it."""

import ast
import builtins
import io
import pathlib
import tokenize
import unittest

PACKAGE = pathlib.Path(__file__).resolve().parent.parent / "rowtypes"
BARRED = ["typing", "typing_extensions", "enum", "Enum", "Generic", "Protocol", "ABC", "namedtuple", "register",
          "mro", "elements", "open", "input", "law", "_record", "_outside", "_cold", "type"]
STATEMENTS = (ast.Global, ast.AsyncFunctionDef, ast.Await, ast.Import)

INTERFACE = {
    "errors": ["RowError", "BadText", "TooLarge", "BadPaper", "BadEdit", "BadJournal", "BadArgument"],
    "expressions": ["children", "nodes", "is_name", "free_names"],
    "reading": ["parse_expression"],
    "writing": ["expression_text"],
    "types": ["normal", "told", "symbols", "variables", "substitute"],
    "typetext": ["parse_type", "type_text"],
    "unifying": ["unify"],
    "typings": ["typed", "typed_in"],
    "instances": ["images", "is_instance", "mean_same", "meeting"],
    "running": ["is_value", "put_in", "step", "run"],
    "explaining": ["has_one", "explanation", "repairs"],
    "papers": ["check_paper", "make_paper"],
    "reports": ["report", "read_report"],
    "books": ["Book"],
    "journal": ["replay"],
}

PARAMETERS = {
    "typed": "expression ignored", "typed_in": "expression ignored given", "images": "given general",
    "is_instance": "given general", "mean_same": "one other", "meeting": "one other", "is_value": "expression",
    "put_in": "expression name given", "step": "expression book", "run": "expression book most",
    "has_one": "expression ignored", "explanation": "expression", "repairs": "expression",
    "check_paper": "expression paper", "make_paper": "expression", "report": "expression", "read_report": "text",
    "replay": "text",
}

BOOK_METHODS = {
    "define": "self pairs", "remove": "self name", "undo": "self", "definitions": "self", "type_of": "self name",
    "ask": "self text", "run": "self text most", "rings": "self", "journal": "self",
}


def sources():
    return {path.stem: path.read_text(encoding="utf-8") for path in sorted(PACKAGE.glob("*.py"))}


def own_names(tree):
    """The names of functions, classes, parameters and variables."""
    for node in ast.walk(tree):
        if isinstance(node, (ast.FunctionDef, ast.ClassDef)):
            yield node.name
        elif isinstance(node, ast.arg):
            yield node.arg
        elif isinstance(node, ast.Name) and isinstance(node.ctx, ast.Store):
            yield node.id


class Form(unittest.TestCase):
    def test_files(self):
        for path in PACKAGE.iterdir():
            self.assertTrue(path.suffix == ".py" or path.name == "__pycache__", path)
        self.assertIn("__init__", sources())

    def test_sizes_and_characters(self):
        for name, text in sources().items():
            lines = text.splitlines()
            self.assertLessEqual(len(lines), 399, name)
            self.assertLessEqual(max([len(line) for line in lines]), 120, name)
            self.assertEqual([sign for sign in text if not (sign == "\n" or " " <= sign <= "~")], [], name)

    def test_functions(self):
        for name, text in sources().items():
            for node in ast.walk(ast.parse(text)):
                self.assertNotIsInstance(node, STATEMENTS, name)
                if isinstance(node, ast.FunctionDef):
                    self.assertLessEqual(node.end_lineno - node.lineno + 1, 40, node.name)
                    self.assertEqual(node.decorator_list, [], node.name)

    def test_names(self):
        for name, text in sources().items():
            tree = ast.parse(text)
            self.assertEqual([own for own in own_names(tree) if own in dir(builtins)], [], name)
            tokens = tokenize.generate_tokens(io.StringIO(text).readline)
            words = [token.string for token in tokens if token.type == tokenize.NAME]
            self.assertEqual([word for word in words if word in BARRED], [], name)

    def test_imports(self):
        for name, text in sources().items():
            tree = ast.parse(text)
            imports = [node for node in ast.walk(tree) if isinstance(node, ast.ImportFrom)]
            brought = [alias.name for node in imports for alias in node.names]
            for node in imports:
                self.assertTrue(node.level == 0 and node.module.startswith("rowtypes."), name)
                defined = [part.name for part in ast.parse(sources()[node.module.split(".")[1]]).body
                           if isinstance(part, (ast.FunctionDef, ast.ClassDef))]
                for alias in node.names:
                    self.assertTrue(alias.asname is None and (alias.name in defined or alias.name.isupper()), alias.name)
            self.assertEqual([own for own in own_names(tree) if own in brought], [], name)

    def test_interface(self):
        for name, wanted in INTERFACE.items():
            body = ast.parse(sources()[name]).body
            defined = [node.name for node in body if isinstance(node, (ast.FunctionDef, ast.ClassDef))]
            self.assertEqual([word for word in wanted if word not in defined], [], name)

    def test_parameters(self):
        for name in ("typings", "instances", "running", "explaining", "papers", "reports", "journal"):
            for node in ast.parse(sources()[name]).body:
                if isinstance(node, ast.FunctionDef) and not node.name.startswith("_"):
                    self.assertEqual(" ".join([part.arg for part in node.args.args]), PARAMETERS[node.name])

    def test_book(self):
        [book] = [node for node in ast.parse(sources()["books"]).body if isinstance(node, ast.ClassDef)]
        found = {node.name: " ".join([part.arg for part in node.args.args]) for node in book.body
                 if isinstance(node, ast.FunctionDef) and not node.name.startswith("_")}
        self.assertEqual([book.name, book.bases, found], ["Book", [], BOOK_METHODS])


if __name__ == "__main__":
    unittest.main()

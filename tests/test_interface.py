"""The interface of DOC.md and the outward form that LANGUAGE.md asks of the files."""

import ast
import pathlib
import unittest

FOLDER = pathlib.Path(__file__).resolve().parent.parent / "wheeltrain"

# Each file of the interface with what is defined in it: a class, or a function's arguments.
INTERFACE = {
    "errors.py": {
        "TrainError": None, "BadRatio": None, "BadTrain": None, "BadShop": None, "BadPairs": None,
        "BadPlace": None, "BadWheel": None, "TooLong": None, "NoText": None,
    },
    "ratios.py": {
        "lowest": ["top", "bottom"], "times": ["one", "other"], "less": ["one", "other"],
        "need_ratio": ["thing"],
    },
    "trains.py": {
        "need_train": ["thing"], "turns": ["train"], "ratio": ["train"], "about": ["train"],
        "plain": ["train"], "joined": ["one", "other"],
        "idled": ["train", "stage", "place", "teeth"],
    },
    "marks.py": {"meeting": ["train"]},
    "shops.py": {"all_ratios": ["shop", "pairs"]},
    "searching.py": {
        "reached": ["shop", "wished", "pairs"], "nearest": ["shop", "wished", "pairs"],
        "shown": ["shop", "wished", "pairs"],
    },
    "texts.py": {"written": ["train"], "read": ["text"]},
}


def defined(path):
    """The classes and functions at a file's module level, functions with their arguments."""
    found = {}
    for node in ast.parse(path.read_text(encoding="ascii")).body:
        if isinstance(node, ast.ClassDef):
            found[node.name] = None
        elif isinstance(node, ast.FunctionDef):
            found[node.name] = [argument.arg for argument in node.args.args]
    return found


class TestInterface(unittest.TestCase):
    def test_everything_is_defined_in_its_file(self):
        for name, wanted in INTERFACE.items():
            found = defined(FOLDER / name)
            for word, arguments in wanted.items():
                with self.subTest(file=name, word=word):
                    self.assertIn(word, found)
                    self.assertEqual(found[word], arguments)


class TestForm(unittest.TestCase):
    def test_the_folder_holds_python_files_alone(self):
        for path in FOLDER.iterdir():
            if path.name != "__pycache__":
                self.assertEqual(path.suffix, ".py", path.name)

    def test_lines_and_signs(self):
        for path in FOLDER.glob("*.py"):
            lines = path.read_text(encoding="ascii").split("\n")
            self.assertLessEqual(len(lines), 399, path.name)
            for line in lines:
                self.assertLessEqual(len(line), 120, path.name)
                self.assertTrue(all(" " <= sign <= "~" for sign in line), path.name)

    def test_functions_have_at_most_forty_lines(self):
        for path in FOLDER.glob("*.py"):
            for node in ast.walk(ast.parse(path.read_text(encoding="ascii"))):
                if isinstance(node, ast.FunctionDef):
                    self.assertLessEqual(node.end_lineno - node.lineno + 1, 40, node.name)


if __name__ == "__main__":
    unittest.main()

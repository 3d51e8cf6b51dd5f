"""What the files of the package may hold: the interface where it is listed, and nothing from outside."""

import ast
import pathlib
import unittest

FOLDER = pathlib.Path(__file__).resolve().parent.parent / "deadlinerun"

INTERFACE = {
    "errors.py": ["RunError", "BadJob", "TooMany", "OutOfPlace", "NoRow"],
    "jobs.py": ["LIMIT", "sound", "asked"],
    "running.py": ["chosen", "run"],
    "looking.py": ["meets", "ends", "late"],
    "answering.py": ["answer", "needed"],
    "rooms.py": ["room"],
    "book.py": ["Book"],
    "notes.py": ["written", "read"],
}

PARAMETERS = {
    "sound": ["job"],
    "asked": ["jobs", "begin", "end"],
    "chosen": ["jobs", "left", "time"],
    "run": ["jobs"],
    "meets": ["jobs", "way"],
    "ends": ["jobs"],
    "late": ["jobs"],
    "answer": ["jobs"],
    "needed": ["jobs"],
    "room": ["jobs", "come", "due"],
    "written": ["jobs"],
    "read": ["text"],
}

METHODS = {
    "take": ["self", "job"],
    "drop": ["self", "place"],
    "listed": ["self"],
    "plan": ["self"],
}


def parsed(path):
    return ast.parse(path.read_text(encoding="ascii"))


def defined(tree):
    names = []
    for row in tree.body:
        if isinstance(row, (ast.FunctionDef, ast.ClassDef)):
            names.append(row.name)
        elif isinstance(row, ast.Assign):
            names.extend(target.id for target in row.targets)
    return names


class Package(unittest.TestCase):
    def files(self):
        return sorted(path for path in FOLDER.iterdir() if path.name != "__pycache__")

    def test_only_files_of_python(self):
        for path in self.files():
            self.assertTrue(path.is_file() and path.suffix == ".py", path)
        self.assertTrue((FOLDER / "__init__.py").is_file())

    def test_interface_is_defined_where_it_is_listed(self):
        for name, words in INTERFACE.items():
            there = defined(parsed(FOLDER / name))
            for word in words:
                self.assertIn(word, there)

    def test_parameters(self):
        for name in INTERFACE:
            for row in parsed(FOLDER / name).body:
                if isinstance(row, ast.FunctionDef) and row.name in PARAMETERS:
                    self.assertEqual([told.arg for told in row.args.args], PARAMETERS[row.name])

    def test_methods_are_defined_in_the_class_itself(self):
        for row in parsed(FOLDER / "book.py").body:
            if isinstance(row, ast.ClassDef) and row.name == "Book":
                there = {told.name: [part.arg for part in told.args.args]
                         for told in row.body if isinstance(told, ast.FunctionDef)}
                self.assertEqual(there, {**METHODS, "__init__": ["self"]})

    def test_imports_from_the_package_alone(self):
        for path in self.files():
            for row in ast.walk(parsed(path)):
                self.assertNotIsInstance(row, ast.Import)
                if isinstance(row, ast.ImportFrom):
                    self.assertEqual(row.level, 0)
                    self.assertTrue(row.module.startswith("deadlinerun."), row.module)

    def test_sizes(self):
        for path in self.files():
            lines = path.read_text(encoding="ascii").split("\n")
            self.assertLess(len(lines), 400)
            for line in lines:
                self.assertLessEqual(len(line), 120)
                self.assertNotIn("\t", line)
            for row in ast.walk(parsed(path)):
                if isinstance(row, ast.FunctionDef):
                    self.assertLessEqual(row.end_lineno - row.lineno + 1, 40)


if __name__ == "__main__":
    unittest.main()

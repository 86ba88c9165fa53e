"""Tests that the interface stands where the document lists it, and of what the files may contain."""

import ast
import builtins
import os
import unittest

FOLDER = os.path.join(os.path.dirname(os.path.dirname(os.path.abspath(__file__))), "marketdays")

FUNCTIONS = {
    "lots.py": {"lot": ["every", "rests"], "met": ["one", "other"], "joined": ["one", "other"],
                "less": ["one", "other"], "has": ["one", "day"], "next_day": ["one", "day"],
                "number": ["one", "low", "high"], "widest": ["one"]},
    "cases.py": {"keeps": ["diary", "case"], "quarrels": ["diary"], "first_case": ["diary"],
                 "choices": ["diary", "town"], "couples": ["diary", "town", "other"], "number_of_cases": ["diary"]},
    "sure.py": {"says": ["diary", "town", "day"], "sure": ["diary", "town"], "never": ["diary", "town"],
                "open_days": ["diary", "town"], "both": ["diary", "town", "other"],
                "apart": ["diary", "town", "other"], "alike_days": ["diary", "town", "other"],
                "unlike_days": ["diary", "town", "other"], "either": ["diary", "town", "other"],
                "follows": ["diary", "note"], "latest": ["diary", "town", "day"],
                "meeting": ["diary", "town", "other"], "latest_meeting": ["diary", "town", "other", "day"],
                "markets": ["diary", "town", "low", "high"]},
    "papers.py": {"paper": ["diary", "town", "day"], "judge_paper": ["diary", "town", "day", "word", "told"]},
    "needs.py": {"needless": ["diary"], "least_notes": ["diary"], "quarrel_sets": ["diary"], "alike": ["one", "other"],
                 "first_unlike": ["one", "other"], "reasons": ["diary", "town", "day"], "mends": ["diary"],
                 "first_day": ["one", "other", "town"]},
    "visits.py": {"left": ["diary", "town", "day"], "best_visit": ["diary", "town", "days"],
                  "visits": ["diary", "town", "days", "goal"], "plan": ["diary", "town", "days", "goal"],
                  "judge_plan": ["diary", "town", "told", "goal"], "longest": ["told"],
                  "hold": ["diary", "town", "days", "many", "goal"],
                  "judge_hold": ["diary", "town", "days", "many", "told", "goal"]},
    "watches.py": {"left_behind": ["diary", "town", "day", "seen"], "watch": ["diary", "town", "day"],
                   "longest_watch": ["diary", "town"], "doubt": ["diary", "town"],
                   "judge_doubt": ["diary", "town", "told"]},
    "journeys.py": {"journey": ["diary", "order", "day"], "best_order": ["diary", "names", "day"],
                    "chosen_journey": ["diary", "names", "day"], "travel": ["diary", "names", "day"],
                    "judge_travel": ["diary", "names", "day", "told", "most"]},
    "texts.py": {"show_diary": ["diary"], "show_lot": ["one"]},
    "readings.py": {"read_diary": ["text"], "read_lot": ["text"]},
}
CLASSES = {
    "errors.py": {"MarketError": {"__init__": ["self", "value"]}, "InvalidName": {}, "InvalidTown": {},
                  "DoubleTown": {}, "InvalidNote": {}, "UnknownTown": {}, "UnknownNote": {}, "InvalidDay": {},
                  "InvalidLot": {}, "Quarrel": {}, "NothingToUndo": {}, "Unreadable": {}},
    "diaries.py": {"Diary": {"__init__": ["self", "towns", "notes"], "towns": ["self"], "notes": ["self"],
                             "names": ["self"], "with_note": ["self", "note"], "without": ["self", "index"],
                             "__len__": ["self"], "__eq__": ["self", "other"]}},
    "books.py": {"Book": {"__init__": ["self", "towns"], "__call__": ["self", "note"], "diary": ["self"],
                          "fresh": ["self", "note"], "undo": ["self"], "__len__": ["self"],
                          "__eq__": ["self", "other"]}},
}


def text_of(name):
    with open(os.path.join(FOLDER, name), encoding="utf-8", newline="") as file:
        return file.read()


def defined(body, kind):
    return {row.name: row for row in body if isinstance(row, kind)}


def parameters(function):
    return [parameter.arg for parameter in function.args.args]


class FormTest(unittest.TestCase):

    def test_functions_are_defined_where_they_are_listed(self):
        for name, functions in FUNCTIONS.items():
            found = defined(ast.parse(text_of(name)).body, ast.FunctionDef)
            for function, told in functions.items():
                self.assertEqual(parameters(found[function]), told)

    def test_classes_and_their_methods_are_defined_where_they_are_listed(self):
        for name, classes in CLASSES.items():
            found = defined(ast.parse(text_of(name)).body, ast.ClassDef)
            for made, methods in classes.items():
                own = defined(found[made].body, ast.FunctionDef)
                for method, told in methods.items():
                    self.assertEqual(parameters(own[method]), told)

    def test_sizes_and_characters(self):
        for name in sorted(os.listdir(FOLDER)):
            if name == "__pycache__":
                continue
            text = text_of(name)
            self.assertTrue(name.endswith(".py"))
            self.assertTrue(all(letter == "\n" or " " <= letter <= "~" for letter in text), name)
            self.assertLessEqual(len(text.splitlines()), 399, name)
            self.assertLessEqual(max(map(len, text.splitlines())), 120, name)
            for row in ast.walk(ast.parse(text)):
                if isinstance(row, ast.FunctionDef):
                    self.assertLessEqual(row.end_lineno - row.lineno + 1, 40, row.name)

    def trees(self):
        """Return tuples (name, tree) of all files."""
        return [(name, ast.parse(text_of(name))) for name in sorted(os.listdir(FOLDER)) if name != "__pycache__"]

    def test_names_that_are_given(self):
        for name, tree in self.trees():
            taken = set(dir(builtins)) | {row.name for row in tree.body if isinstance(row, ast.ClassDef)}
            taken |= {alias.name for row in tree.body if isinstance(row, ast.ImportFrom) for alias in row.names}
            given = {row.id for row in ast.walk(tree) if isinstance(row, ast.Name) and isinstance(row.ctx, ast.Store)}
            given |= {row.arg for row in ast.walk(tree) if isinstance(row, ast.arg)}
            self.assertEqual(given & taken, set(), name)

    def test_imports_are_used(self):
        for name, tree in self.trees():
            used = {row.id for row in ast.walk(tree) if isinstance(row, ast.Name)}
            for row in tree.body:
                for alias in row.names if isinstance(row, ast.ImportFrom) else []:
                    self.assertIn(alias.name, used, name)

    def test_what_is_not_used(self):
        for name, tree in self.trees():
            for row in ast.walk(tree):
                self.assertNotIsInstance(row, (ast.GeneratorExp, ast.Global, ast.Yield, ast.Pow, ast.Div), name)
                self.assertFalse(isinstance(row, ast.Constant) and isinstance(row.value, float), name)
                self.assertFalse(isinstance(row, ast.Attribute) and row.attr == "sort", name)

    def test_imports(self):
        for name in sorted(os.listdir(FOLDER)):
            if name == "__pycache__":
                continue
            for row in ast.walk(ast.parse(text_of(name))):
                self.assertNotIsInstance(row, ast.Import)
                if isinstance(row, ast.ImportFrom):
                    self.assertTrue(row.module in ("math", "itertools") or row.module.startswith("marketdays."), row.module)


if __name__ == "__main__":
    unittest.main()

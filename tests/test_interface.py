"""The interface: names, arguments, and methods that stand in their own class."""

import importlib
import inspect
import unittest

from hunch.notes import Notes
from hunch.plain import State

FUNCTIONS = {
    "values.kind_of": "value", "values.is_so": "value", "values.worked": "sign one two",
    "codes.coded": "program",
    "plain.do_row": "code state", "plain.walked": "code names most",
    "making.quick_rows": "code top notes most", "quick.run_quick": "rows state",
    "reading.program_text": "program", "reading.read_program": "text"}
CLASSES = {
    "plain.State": ("names most", {"stand": "place"}),
    "notes.Notes": ("kinds ways", {"see": "code state", "count": "top", "forget": "top"}),
    "machine.Machine": ("code names most limits", {
        "hint": "kinds ways", "finish": "", "told": "", "names_now": "", "counts": ""})}


def found(path):
    module, name = path.split(".")
    return getattr(importlib.import_module("hunch." + module), name)


def arguments(function):
    return " ".join(inspect.signature(function).parameters)


class Interface(unittest.TestCase):
    def test_functions(self):
        for path, wanted in FUNCTIONS.items():
            self.assertEqual(arguments(found(path)), wanted, path)

    def test_classes(self):
        for path, (wanted, methods) in CLASSES.items():
            self.assertEqual(arguments(found(path)), wanted, path)
            for method, told in methods.items():
                self.assertIn(method, vars(found(path)), path)
                self.assertEqual(arguments(vars(found(path))[method]), f"self {told}".strip(), path)

    def test_attributes_are_set_on_each_object(self):
        self.assertLessEqual({"names", "stack", "place", "left", "said", "last"}, set(vars(State({}, 0))))
        self.assertLessEqual({"kinds", "ways"}, set(vars(Notes({}, {}))))


if __name__ == "__main__":
    unittest.main()

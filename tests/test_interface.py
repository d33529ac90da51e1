"""The interface: its names, their files and their parameters, which tests/interface.txt lists."""

import importlib
import inspect
import re
import unittest
from pathlib import Path

LISTED = Path(__file__).resolve().parent / "interface.txt"


class Interface(unittest.TestCase):

    def test_all_is_there(self):
        lines = LISTED.read_text().splitlines()
        self.assertGreater(len(lines), 250)
        for line in lines:
            place, told = re.fullmatch(r"([\w.]+)(\(.*\))", line).groups()
            module, *names = place.split(".")
            found = importlib.import_module("centsatonce." + module)
            for name in names:
                # What is listed is defined in that very file and class.
                found = vars(found)[name]
            self.assertEqual(found.__module__, "centsatonce." + module, line)
            if names != ["TillError"]:
                own = re.sub(r"^\(self(, )?", "(", str(inspect.signature(found)))
                self.assertEqual(own, told, line)

    def test_no_class_is_derived(self):
        for line in LISTED.read_text().splitlines():
            module, name = line.split("(")[0].split(".")[:2]
            found = vars(importlib.import_module("centsatonce." + module))[name]
            if inspect.isclass(found) and module != "errors":
                self.assertEqual(found.__bases__, (object,))


if __name__ == "__main__":
    unittest.main()

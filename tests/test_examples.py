"""All examples of the document, which tests/examples.txt has in their sequence."""

import doctest
import unittest
from pathlib import Path

EXAMPLES = Path(__file__).resolve().parent / "examples.txt"


class Examples(unittest.TestCase):

    def test_all(self):
        found = doctest.testfile(str(EXAMPLES), module_relative=False)
        self.assertEqual(found.attempted, 154)
        self.assertEqual(found.failed, 0)


if __name__ == "__main__":
    unittest.main()

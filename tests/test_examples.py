"""Each example of the document gives what it says there, and the examples of README.md run."""

import doctest
import re
import unittest
from pathlib import Path

TESTS = Path(__file__).resolve().parent
README = TESTS.parent / "README.md"


class ExamplesTest(unittest.TestCase):

    def test_examples_of_the_document(self):
        found = doctest.testfile("examples.txt", verbose=False)
        self.assertEqual((found.failed, found.attempted), (0, 57))

    def test_examples_of_the_readme(self):
        names = {}
        blocks = re.findall(r"```python\n(.*?)```", README.read_text(encoding="utf-8"), re.S)
        self.assertGreater(len(blocks), 5)
        for block in blocks:
            exec(block, names)

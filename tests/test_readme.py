"""README.md shows what the program does."""

import doctest
import unittest
from pathlib import Path

README = Path(__file__).resolve().parent.parent / "README.md"


class Readme(unittest.TestCase):

    def test_its_examples(self):
        # A row of three back quotes ends an example, which doctest does not know.
        text = README.read_text(encoding="utf-8").replace("```", "")
        test = doctest.DocTestParser().get_doctest(text, {}, "README.md", None, 0)
        told = []
        result = doctest.DocTestRunner().run(test, out=told.append)
        self.assertGreater(result.attempted, 5)
        self.assertEqual(result.failed, 0, "".join(told))

    def test_it_names_all_modules(self):
        text = README.read_text(encoding="utf-8")
        for path in (README.parent / "nearadds").glob("*.py"):
            self.assertTrue(path.stem == "__init__" or f"`{path.stem}`" in text or f"`nearadds.{path.stem}`" in text)

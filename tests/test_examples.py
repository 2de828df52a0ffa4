"""All examples of the document, word for word, where it stands beside the project."""
import importlib
import os
import pkgutil
import unittest

import lookalike

PATH = os.path.join(os.path.dirname(os.path.abspath(__file__)), "..", "..", "shared", "DOC.md")


def all_names():
    """Everything that the modules define."""
    names = {}
    for module in pkgutil.iter_modules(lookalike.__path__):
        module = importlib.import_module("lookalike." + module.name)
        names.update({name: value for name, value in vars(module).items() if getattr(value, "__module__", None) == module.__name__})
    return names


def examples(text):
    """Triples of a line's number, what is asked, and what is told, None if nothing is."""
    lines = text.split("\n")
    for number, line in enumerate(lines):
        if line.startswith("    >>> "):
            told = lines[number + 1]
            yield number + 1, line[8:], told[4:] if told.startswith("    ") and not told.startswith("    >>> ") else None


@unittest.skipUnless(os.path.exists(PATH), "the document is not here")
class ExamplesTest(unittest.TestCase):
    def test_examples(self):
        with open(PATH, encoding="utf-8") as file:
            text = file.read()
        names = all_names()
        asked = 0
        for number, line, told in examples(text):
            if told is None:
                exec(line, names)
            else:
                self.assertEqual(repr(eval(line, names)), told, number)
                asked += 1
        self.assertGreater(asked, 30)


if __name__ == "__main__":
    unittest.main()

"""The examples of the document, run as they stand there."""

import doctest
import unittest
from importlib import import_module
from pathlib import Path

FOLDER = Path(__file__).resolve().parent
MODULES = ("errors", "trees", "texts", "meanings", "makings", "plain", "running", "lots", "lotworks", "lotplain",
           "widerows", "widemakings", "lostrows", "careless", "renaming", "harmless", "stagetrees", "stageruns",
           "codemakers", "modules", "moduleorders", "moduleshows", "modulelinks", "placecodes", "placeruns",
           "betterplaces", "deeds", "exchanges", "early", "late", "library", "plainuses", "directly", "lifejourneys",
           "lifeorigins", "lifestops", "lifetexts", "lifevalues", "lifebenches")


class Examples(unittest.TestCase):
    def test_examples(self):
        known = {}
        for word in MODULES:
            module = import_module("namesapart." + word)
            known.update({name: thing for name, thing in vars(module).items()
                          if callable(thing) and thing.__module__ == module.__name__})
        text = (FOLDER / "examples.txt").read_text(encoding="utf-8")
        examples = doctest.DocTestParser().get_doctest(text, known, "examples", "examples.txt", 0)
        self.assertGreater(len(examples.examples), 60)
        told = []
        result = doctest.DocTestRunner(verbose=False).run(examples, out=told.append)
        self.assertEqual(result.failed, 0, "".join(told))


if __name__ == "__main__":
    unittest.main()

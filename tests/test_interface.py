"""Every function and class of the interface is defined in its file, with the arguments it lists."""

import importlib
import inspect
import unittest

FUNCTIONS = {
    "facts": {
        "slots_of": ["patterns"],
        "put_in": ["pattern", "filling"],
        "fitted": ["pattern", "fact"],
    },
    "filling": {
        "things_of": ["given", "rules"],
        "filled_rules": ["given", "rules"],
    },
    "checking": {"check": ["given", "rules"]},
    "deciding": {
        "entered": ["filled", "told", "refuted"],
        "kept_out": ["filled", "told", "refuted"],
        "decided": ["given", "rules"],
    },
    "rings": {"ring": ["verdict", "fact"]},
    "layers": {
        "layers": ["rules"],
        "word_ring": ["rules"],
    },
}
CLASSES = {
    "errors": ["NotfoundError", "BadFact", "BadRule", "LooseSlot", "TooMany", "NotOpen", "NotLayered"],
    "deciding": ["Verdict"],
}


def module_of(name):
    return importlib.import_module(f"notfound.{name}")


class InterfaceTest(unittest.TestCase):

    def test_functions(self):
        for file, functions in FUNCTIONS.items():
            for name, arguments in functions.items():
                with self.subTest(file=file, name=name):
                    function = getattr(module_of(file), name)
                    self.assertTrue(inspect.isfunction(function))
                    self.assertEqual(function.__module__, f"notfound.{file}")
                    self.assertEqual(list(inspect.signature(function).parameters), arguments)

    def test_classes(self):
        for file, names in CLASSES.items():
            for name in names:
                with self.subTest(file=file, name=name):
                    found = getattr(module_of(file), name)
                    self.assertTrue(inspect.isclass(found))
                    self.assertEqual(found.__module__, f"notfound.{file}")

    def test_a_verdict(self):
        verdict = module_of("deciding").decided([("a",)], [])
        for field in ["filled", "story", "left"]:
            with self.subTest(field=field):
                self.assertIs(getattr(verdict, field).__class__, list)
                self.assertIn(field, vars(verdict))
        said = vars(module_of("deciding").Verdict)["said"]
        self.assertEqual(list(inspect.signature(said).parameters), ["self", "fact"])


if __name__ == "__main__":
    unittest.main()

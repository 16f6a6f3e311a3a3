import importlib
import inspect
import unittest

from tests.asking import TELLING

INTERFACE = {
    "stridewell.guessers": {"guesses": ["guesser", "places"]},
    "stridewell.running": {
        "run": ["setting", "guesser", "row"],
        "story": ["setting", "guesser", "row"],
    },
    "stridewell.judging": {
        "cost": ["setting", "guesser", "row", "weights"],
        "held": ["setting", "guessers", "row", "weights"],
        "worst": ["setting", "guesser", "other", "weights", "places", "length"],
    },
    "stridewell.notes": {"written": ["guesser"], "read": ["text"]},
}


class InterfaceTest(unittest.TestCase):
    def test_each_function_is_defined_in_its_file_with_its_arguments(self):
        for module, functions in INTERFACE.items():
            for name, arguments in functions.items():
                with self.subTest(name=name):
                    function = getattr(importlib.import_module(module), name)
                    self.assertEqual((function.__module__, function.__name__), (module, name))
                    self.assertEqual(list(inspect.signature(function).parameters), arguments)

    def test_arguments_may_be_handed_in_by_their_names(self):
        for name, (function, parts) in TELLING.items():
            with self.subTest(name=name):
                self.assertEqual(function(**parts), function(*parts.values()))


if __name__ == "__main__":
    unittest.main()

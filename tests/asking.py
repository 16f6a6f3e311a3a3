"""The functions of the interface, asked with what is right but for what a test replaces."""

import unittest

from stridewell.errors import BadAsk, BadGuesser, BadRow, BadSetting, BadText, WellError
from stridewell.guessers import guesses
from stridewell.judging import cost, held, worst
from stridewell.notes import written
from stridewell.running import run, story
from tests.samples import RIGHT, WEIGHTS, reads

REFUSALS = (BadSetting, BadGuesser, BadRow, BadAsk, BadText)

ROW = reads(0, 1, 0)
TELLING = {
    "run": (run, {"setting": RIGHT, "guesser": ("next", 1), "row": ROW}),
    "story": (story, {"setting": RIGHT, "guesser": ("next", 1), "row": ROW}),
    "cost": (cost, {"setting": RIGHT, "guesser": ("next", 1), "row": ROW, "weights": WEIGHTS}),
    "held": (held, {"setting": RIGHT, "guessers": [("next", 1), ("none",)], "row": ROW, "weights": WEIGHTS}),
    "worst": (worst, {"setting": RIGHT, "guesser": ("next", 1), "other": ("none",), "weights": WEIGHTS,
                      "places": 2, "length": 2}),
    "guesses": (guesses, {"guesser": ("next", 1), "places": [0, 1]}),
    "written": (written, {"guesser": ("next", 1)}),
}


def takers(part):
    """The names of the functions that are handed this part."""
    return [name for name, (_, parts) in TELLING.items() if part in parts]


def ask(name, **others):
    """Ask a function, with other parts than those that are right."""
    function, parts = TELLING[name]
    return function(*{**parts, **others}.values())


class RefusalTest(unittest.TestCase):
    def refused(self, refusal, value, function, *handed):
        """Check that it is refused so, with this value (or None where the refusal has none)."""
        with self.subTest(function=function, handed=handed):
            with self.assertRaises(WellError) as caught:
                function(*handed)
            why = caught.exception
            self.assertIsInstance(why, ValueError)
            self.assertEqual([other for other in REFUSALS if isinstance(why, other)], [refusal])
            if value is not None:
                name = {BadSetting: "word", BadRow: "number", BadText: "place"}[refusal]
                self.assertEqual(getattr(why, name), value)
                self.assertIs(type(getattr(why, name)), type(value))

    def ask_refused(self, refusal, value, name, **others):
        function, parts = TELLING[name]
        self.refused(refusal, value, function, *{**parts, **others}.values())

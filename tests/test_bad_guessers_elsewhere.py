from stridewell.errors import BadGuesser
from tests.asking import RefusalTest, takers
from tests.samples import NONE, SIMPLE, within
from tests.test_bad_guessers import WRONG


class EverywhereTest(RefusalTest):
    """Each function that is handed what is no guesser refuses it."""

    def no_guesser(self, guesser):
        for name in takers("guesser"):
            self.ask_refused(BadGuesser, None, name, guesser=guesser)
        self.ask_refused(BadGuesser, None, "worst", other=guesser)
        self.ask_refused(BadGuesser, None, "worst", guesser=guesser, length=0)
        self.ask_refused(BadGuesser, None, "held", guessers=[guesser])
        self.ask_refused(BadGuesser, None, "held", guessers=[NONE, guesser, NONE], row=[])
        self.ask_refused(BadGuesser, None, "run", guesser=guesser, row=[])

    def test_what_is_no_guesser(self):
        for guesser in WRONG:
            self.no_guesser(guesser)

    def test_four_times_both_around_one(self):
        for guesser in SIMPLE:
            for side in (0, 1):
                self.no_guesser(within(4, guesser, side))

    def test_there_are_functions_that_take_one(self):
        self.assertEqual(takers("guesser"), ["run", "story", "cost", "worst", "guesses", "written"])

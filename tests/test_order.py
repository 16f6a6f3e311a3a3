import itertools

from stridewell.errors import BadAsk, BadGuesser, BadRow, BadSetting
from tests.asking import TELLING, RefusalTest
from tests.samples import MEMORY, NONE, reads

NO_GUESSER = ("next", 4)
# What is none, and how it is refused where nothing ahead of it is none.
WRONG = {
    "setting": [
        (((), 1, 0, 1), BadSetting, "memory"), ((MEMORY, 9, 0, 1), BadSetting, "room"),
        ((MEMORY, 1, 5, 1), BadSetting, "late"), ((MEMORY, 1, 0, 0), BadSetting, "most"),
    ],
    "guesser": [(NO_GUESSER, BadGuesser, None), ((), BadGuesser, None)],
    "other": [(NO_GUESSER, BadGuesser, None), (("both", NONE), BadGuesser, None)],
    "guessers": [
        ([NO_GUESSER], BadGuesser, None), ([NONE, NO_GUESSER], BadGuesser, None),
        ([NONE] * 7 + [NO_GUESSER], BadGuesser, None),
        ([NONE] * 9, BadAsk, None), ([NO_GUESSER] + [NONE] * 8, BadAsk, None), ([NONE] * 8 + [()], BadAsk, None),
    ],
    "row": [
        (reads(8), BadRow, 0), (reads(0, 1) + [()], BadRow, 2), (reads(*[0] * 101), BadRow, 100),
    ],
    "weights": [((), BadAsk, None), ((1, 2, 10), BadAsk, None)],
    "places": [(0, BadAsk, None), (5, BadAsk, None)],
    "length": [(-1, BadAsk, None), (8, BadAsk, None)],
}


class OrderTest(RefusalTest):
    def test_each_two_that_are_none(self):
        for name, (_, parts) in TELLING.items():
            if name in ("guesses", "written"):
                continue
            # The parts are handed in in the order in which they are refused.
            for ahead, behind in itertools.combinations(parts, 2):
                for wrong, refusal, value in WRONG[ahead]:
                    for other, _, _ in WRONG[behind]:
                        self.ask_refused(refusal, value, name, **{ahead: wrong, behind: other})

    def test_each_one_alone(self):
        for name, (_, parts) in TELLING.items():
            for part in parts:
                if (name, part) != ("guesses", "places"):
                    for wrong, refusal, value in WRONG[part]:
                        self.ask_refused(refusal, value, name, **{part: wrong})

    def test_all_from_one_on(self):
        for name in ("run", "story", "cost", "held", "worst"):
            parts = list(TELLING[name][1])
            for at, part in enumerate(parts):
                wrong, refusal, value = WRONG[part][0]
                others = {later: WRONG[later][0][0] for later in parts[at + 1:]}
                self.ask_refused(refusal, value, name, **{part: wrong, **others})

    def test_more_than_8_guessers_ahead_of_guessers_and_row_behind_the_setting(self):
        for guessers in ([NONE] * 9, [NO_GUESSER] * 9, [NO_GUESSER] * 20):
            self.ask_refused(BadAsk, None, "held", guessers=guessers)
            self.ask_refused(BadAsk, None, "held", guessers=guessers, row=reads(9))
            self.ask_refused(BadSetting, "most", "held", guessers=guessers, setting=(MEMORY, 1, 0, 5))

    def test_a_row_is_none_by_the_memory_of_the_setting(self):
        self.ask_refused(BadRow, 1, "run", setting=(MEMORY[:3], 1, 0, 1), row=reads(2, 3))
        self.ask_refused(BadSetting, "memory", "run", setting=((), 1, 0, 1), row=reads(0))

    def test_no_guesser_and_a_wrong_row_or_wrong_weights(self):
        self.ask_refused(BadRow, 0, "held", guessers=[], row=reads(9), weights=())
        self.ask_refused(BadAsk, None, "held", guessers=[], weights=())

    def test_the_first_wrong_guesser_is_refused_ahead_of_the_row(self):
        for at in range(8):
            guessers = [NONE] * at + [NO_GUESSER] + [NONE] * (7 - at)
            self.ask_refused(BadGuesser, None, "held", guessers=guessers, row=reads(9), weights=())

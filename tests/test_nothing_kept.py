import copy
import unittest

from stridewell.errors import WellError
from stridewell.judging import cost, held, worst
from stridewell.notes import read, written
from stridewell.running import run, story
from tests.asking import TELLING
from tests.samples import MEMORY, MIXED, NONE, SIMPLE, mixed_row, setting

SETTING = setting(2, 1, 3)
WEIGHTS = (1, 2, 3)


def askings():
    """Askings of each function that is told lists or tells some, with what is handed in."""
    for guesser in SIMPLE + MIXED:
        yield run, [SETTING, guesser, mixed_row(12, 6, 1)]
        yield story, [SETTING, guesser, mixed_row(12, 6, 1)]
        yield cost, [SETTING, guesser, mixed_row(12, 6, 1), WEIGHTS]
        yield held, [SETTING, [guesser, NONE, ("next", 3)], mixed_row(12, 6, 1), WEIGHTS]
        yield worst, [SETTING, guesser, NONE, WEIGHTS, 3, 3]
        yield written, [guesser]
        yield read, [written(guesser)]


def change(value):
    """Change all that can be changed of what was told or handed in."""
    if isinstance(value, (list, tuple)):
        for part in value:
            change(part)
    if isinstance(value, list):
        value.reverse()
        value.append(("read", 99))
        del value[0]


class NothingKeptTest(unittest.TestCase):
    def test_what_is_handed_in_stays_as_it_was(self):
        for function, handed in askings():
            kept = copy.deepcopy(handed)
            function(*handed)
            self.assertEqual(handed, kept)

    def test_what_is_refused_stays_as_it_was(self):
        for name, part, wrong in [
            ("run", "row", [("write", 0, 5), ("write", 0, 100)]), ("story", "row", [("write", 0, 5), ()]),
            ("cost", "weights", (1, 2, 10)), ("held", "guessers", [NONE, ("next", 4)]),
            ("held", "guessers", [NONE] * 9), ("held", "row", [("write", 0, 5)] * 101), ("held", "weights", ()),
            ("worst", "length", 8), ("run", "setting", (MEMORY, 0, 0, 1)),
        ]:
            function, parts = TELLING[name]
            handed = list(copy.deepcopy({**parts, part: wrong}).values())
            kept = copy.deepcopy(handed)
            with self.assertRaises(WellError):
                function(*handed)
            self.assertEqual(handed, kept)
            with self.assertRaises(WellError):
                function(*handed)

    def test_asked_again_each_function_tells_the_same(self):
        for function, handed in askings():
            self.assertEqual(function(*handed), function(*handed))

    def test_the_same_asking_tells_the_same_when_what_was_told_is_changed(self):
        for function, handed in askings():
            told = function(*handed)
            kept = copy.deepcopy(told)
            handed_in = copy.deepcopy(handed)
            change(told)
            self.assertEqual(handed, handed_in)
            self.assertEqual(function(*handed), kept)

    def test_what_was_told_stays_when_what_was_handed_in_is_changed(self):
        for function, handed in askings():
            told = function(*handed)
            kept = copy.deepcopy(told)
            change(handed)
            self.assertEqual(told, kept)

    def test_changed_lists_are_asked_anew(self):
        for guesser in SIMPLE + MIXED:
            row = mixed_row(6, 6, 1)
            told = run(SETTING, guesser, row)
            row.append(("write", 5, 98))
            self.assertEqual(run(SETTING, guesser, row)[1][5], 98)
            row.pop()
            self.assertEqual(run(SETTING, guesser, row), told)

    def test_one_asking_knows_nothing_of_the_one_ahead(self):
        for guesser in SIMPLE + MIXED:
            told = story(SETTING, guesser, [("read", 0), ("read", 2)])
            story(SETTING, guesser, mixed_row(50, 8, 3))
            self.assertEqual(story(SETTING, guesser, [("read", 0), ("read", 2)]), told)

    def test_two_askings_tell_lists_of_their_own(self):
        row = mixed_row(12, 6, 1)
        for function, parts in [(run, (SETTING, NONE, row)), (story, (SETTING, NONE, row)),
                                (held, (SETTING, [NONE], row, WEIGHTS))]:
            first = function(*parts)
            second = function(*parts)
            kept = copy.deepcopy(second)
            change(first)
            self.assertEqual(second, kept)


if __name__ == "__main__":
    unittest.main()

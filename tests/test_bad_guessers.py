import unittest

from stridewell.errors import BadAsk, BadGuesser, BadRow, BadSetting, BadText, WellError
from stridewell.guessers import guesses
from tests.samples import NONE, SIMPLE, within

OTHER_WORDS = [
    ("None",), ("NONE",), ("none ",), ("",), ("nothing",), ("next 1",), ("text", 1),
    ("Next", 1), ("nexts", 1), ("strides", 1), ("pair", 1), ("", 1), ("Both", NONE, NONE),
    ("either", NONE, NONE), (1,), (0, 1), (1, "next"), (1, NONE, NONE), ((),), (NONE,),
    (("next",), 1), (("both",), NONE, NONE), (("next", 1),), (NONE, NONE),
]
PARTS_FEWER = [(), ("next",), ("stride",), ("pairs",), ("both",), ("both", NONE)]
PARTS_MORE = [
    ("none", 1), ("none", "none"), ("none", ()), ("none", NONE), ("none", NONE, NONE),
    ("next", 1, 1), ("next", 1, "x"), ("stride", 1, 2), ("pairs", 1, 2), ("pairs", 1, NONE),
    ("both", NONE, NONE, NONE), ("both", NONE, NONE, 1), ("both", NONE, NONE, ()),
]
NUMBERS = [
    ("next", 0), ("next", 4), ("next", -1), ("next", 100),
    ("stride", 0), ("stride", 4), ("stride", -1), ("stride", 100),
    ("pairs", 0), ("pairs", 3), ("pairs", -1), ("pairs", 100),
]
NO_NUMBERS = [
    (word, part) for word in ("next", "stride", "pairs")
    for part in ("1", "", "one", (), (1,), NONE, ("next", 1))
]
NO_PARTS = [
    ("both", one, other) for one, other in (
        ("none", NONE), (NONE, "none"), ("none", "none"), (1, NONE), (NONE, 1), (1, 2),
        ((), NONE), (NONE, ()), (NONE, ("none", 1)), ("next", 1), ("", ""), ("next", NONE),
        ((NONE,), NONE), (NONE, (NONE,)),
    )
]
WRONG = [*OTHER_WORDS, *PARTS_FEWER, *PARTS_MORE, *NUMBERS, *NO_NUMBERS, *NO_PARTS]


class BadGuesserTest(unittest.TestCase):
    def refused(self, guesser):
        for places in ([], [0], [0, 1, 2, 3, 0, 1]):
            with self.subTest(guesser=guesser, places=places):
                with self.assertRaises(BadGuesser) as caught:
                    guesses(guesser, places)
                why = caught.exception
                self.assertIsInstance(why, WellError)
                self.assertIsInstance(why, ValueError)
                self.assertNotIsInstance(why, (BadSetting, BadRow, BadAsk, BadText))

    def test_another_word(self):
        for guesser in OTHER_WORDS:
            self.refused(guesser)

    def test_a_part_fewer(self):
        for guesser in PARTS_FEWER:
            self.refused(guesser)

    def test_a_part_more(self):
        for guesser in PARTS_MORE:
            self.refused(guesser)

    def test_numbers_below_and_beyond(self):
        for guesser in NUMBERS:
            self.refused(guesser)

    def test_what_is_no_number(self):
        for guesser in NO_NUMBERS:
            self.refused(guesser)

    def test_a_both_around_what_is_no_tuple_or_none(self):
        for guesser in NO_PARTS:
            self.refused(guesser)

    def test_a_both_around_each_of_them(self):
        for guesser in WRONG:
            for boths in (1, 2, 3):
                for side in (0, 1):
                    self.refused(within(boths, guesser, side))

    def test_four_times_both_around_one(self):
        for guesser in SIMPLE:
            for boths in (4, 5, 8):
                for side in (0, 1):
                    self.refused(within(boths, guesser, side))

    def test_four_times_both_around_one_that_lies_first_left_then_right(self):
        self.refused(("both", ("both", NONE, ("both", ("both", NONE, NONE), NONE)), NONE))
        self.refused(("both", NONE, ("both", ("both", NONE, ("both", NONE, NONE)), NONE)))

    def test_nothing_is_told_before_it_is_refused(self):
        places = [1, 2, 3]
        with self.assertRaises(BadGuesser):
            guesses(("both", ("next", 1), ("next", 4)), places)
        self.assertEqual(places, [1, 2, 3])


if __name__ == "__main__":
    unittest.main()

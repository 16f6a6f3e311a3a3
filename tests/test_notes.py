import itertools
import unittest

from stridewell.errors import BadGuesser, BadText
from stridewell.notes import read, written
from tests.asking import RefusalTest
from tests.samples import MIXED, NONE, SIMPLE, within

TEXTS = {
    ("none",): "none",
    ("next", 1): "next 1",
    ("next", 3): "next 3",
    ("stride", 2): "stride 2",
    ("pairs", 2): "pairs 2",
    ("both", ("next", 1), ("stride", 2)): "both next 1 stride 2",
    ("both", NONE, ("pairs", 1)): "both none pairs 1",
    ("both", ("pairs", 1), NONE): "both pairs 1 none",
    ("both", ("both", NONE, ("next", 2)), ("stride", 3)): "both both none next 2 stride 3",
    ("both", NONE, ("both", ("next", 2), ("stride", 3))): "both none both next 2 stride 3",
    ("both", ("both", ("both", ("next", 1), NONE), ("pairs", 2)), ("stride", 1)):
        "both both both next 1 none pairs 2 stride 1",
    ("both", ("next", 1), ("both", ("next", 2), ("both", ("next", 3), NONE))):
        "both next 1 both next 2 both next 3 none",
}


def all_of(boths):
    """Some guessers with so many boths and fewer, every sort on each side."""
    if boths == 0:
        return SIMPLE
    inner = all_of(boths - 1)
    return SIMPLE + [("both", one, inner[-at - 1]) for at, one in enumerate(inner)]


class TextTest(unittest.TestCase):
    def test_written(self):
        for guesser, text in TEXTS.items():
            self.assertEqual(written(guesser), text)

    def test_read(self):
        for guesser, text in TEXTS.items():
            self.assertEqual(read(text), guesser)

    def test_what_is_written_is_read_to_the_same_guesser(self):
        deep = [within(boths, guesser, side) for boths in (1, 2, 3) for guesser in SIMPLE for side in (0, 1)]
        pairs = [("both", one, other) for one, other in itertools.product(SIMPLE, repeat=2)]
        for guesser in SIMPLE + MIXED + pairs + deep + all_of(1) + all_of(2) + all_of(3):
            self.assertEqual(read(written(guesser)), guesser)

    def test_three_times_both_around_eight(self):
        four = ("both", ("both", ("next", 1), ("next", 2)), ("both", ("next", 3), ("stride", 1)))
        text = "both both both next 1 next 2 both next 3 stride 1 both both next 1 next 2 both next 3 stride 1"
        self.assertEqual(written(("both", four, four)), text)
        self.assertEqual(read(text), ("both", four, four))

    def test_tuples_of_texts_and_numbers(self):
        told = read("both next 1 both none stride 2")
        self.assertEqual([type(part) for part in told], [str, tuple, tuple])
        self.assertEqual([type(part) for part in told[1]], [str, int])
        self.assertEqual([type(part) for part in told[2]], [str, tuple, tuple])
        self.assertEqual([type(part) for part in told[2][1]], [str])
        self.assertIs(type(written(told)), str)

    def test_asked_again_they_tell_the_same(self):
        for guesser, text in TEXTS.items():
            self.assertEqual([written(guesser), read(text)], [written(guesser), read(text)])


class BadTextTest(RefusalTest):
    def no_text(self, place, *texts):
        for text in texts:
            self.refused(BadText, place, read, text)

    def test_an_unknown_word(self):
        self.no_text(0, "x", "None", "NEXT 1", "nex 1", "nextt 1", "nones", "1", "7 next", "next1", "no ne", "-")
        self.no_text(1, "both x none", "both 1 none", "both Next 1 none", "both stride1 none")
        self.no_text(2, "both none x", "both none 3", "both none Both none none", "both none none1")
        self.no_text(4, "both both next 1 x", "both both next 1 2")
        self.no_text(5, "both both next 1 none x", "both both next 1 none 3 none")

    def test_a_number_of_two_figures_or_of_none(self):
        for word in ("next", "stride", "pairs"):
            for number in ("10", "11", "01", "00", "123", "one", "x", "-1", "+1", "1.", ".", "1x", "a", "none",
                           "next", "both", "^", "1\u00b2", "\u00b2", "\u0663", "\uff11", "\u00bd", "1_0", "0x1"):
                self.no_text(1, f"{word} {number}")
                self.no_text(1, f"{word} {number} x", f"{word} {number} 1")
                self.no_text(2, f"both {word} {number} none")
                self.no_text(3, f"both none {word} {number}")

    def test_a_word_too_many(self):
        self.no_text(1, "none none", "none 1", "none x", "none both", "none next 1")
        self.no_text(2, "next 1 1", "next 1 none", "stride 2 x", "pairs 2 2 2", "next 3 next 3")
        self.no_text(3, "both none none none", "both none none x", "both none none 1")
        self.no_text(5, "both next 1 stride 2 pairs 1", "both next 1 next 1 1")

    def test_a_word_too_few(self):
        self.no_text(1, "next", "stride", "pairs", "both")
        self.no_text(2, "both none", "both next", "both both", "both pairs")
        self.no_text(3, "both next 1", "both none stride", "both both none", "both both both")
        self.no_text(4, "both both none none", "both next 1 both", "both next 1 next")
        self.no_text(7, "both next 1 both next 1 stride", "both both both both none none none")

    def test_an_empty_text(self):
        self.no_text(0, "")

    def test_blanks_alone(self):
        self.no_text(0, " ", "  ", "   ")

    def test_two_blanks(self):
        self.no_text(1, "next  1", "both  none none", "none  none", "stride   2")
        self.no_text(2, "both none  none", "both next  1 none")
        self.no_text(3, "both next 1  none")

    def test_a_blank_at_either_end(self):
        self.no_text(0, " none", " next 1", " both none none", "  none", " x")
        self.no_text(1, "none ", "none  ", "next ", "both ")
        self.no_text(2, "next 1 ", "pairs 2  ", "both none ")
        self.no_text(3, "both none none ", "both next 1 ")

    def test_another_sign_in_place_of_a_blank(self):
        for sign in ("\n", "\t", "\r", "\r\n", "\x0b", "\x0c", "\x1c", "\x85", "\u00a0", "\u2003", "\u2028", "_",
                     ",", "-", ".", ":", ";", "/", "\x00"):
            self.no_text(0, f"next{sign}1", f"both{sign}none none", f"none{sign}", f"{sign}none", f"{sign}next 1",
                         sign, f"none{sign}none", f"next{sign} 1")
            self.no_text(1, f"next 1{sign}", f"both none{sign}none", f"next {sign}1", f"next {sign}", f"none {sign}")
            self.no_text(2, f"both none none{sign}", f"both none {sign}none", f"next 1 {sign}")

    def test_a_word_that_cant_stand_there_ahead_of_a_wrong_guesser(self):
        self.no_text(2, "next 9 x", "next 0 none", "next 4 4", "pairs 3 ")
        self.no_text(3, "both next 9", "both next 4 x", "both pairs 3 ")
        self.no_text(4, "both next 0 next", "both none next 0 x")
        self.no_text(5, "both both both both both")
        self.no_text(8, "both both both both none none none none")
        self.no_text(9, "both both both both none none none none none none")

    def test_the_first_of_two(self):
        self.no_text(0, "x x", "x  ", "1 1", " ")
        self.no_text(1, "none x x", "next x x", "both x x", "both  x")


class BadGuesserTest(RefusalTest):
    def no_guesser(self, *texts):
        for text in texts:
            self.refused(BadGuesser, None, read, text)

    def test_a_number_beyond_the_guessers(self):
        for number in (0, 4, 5, 6, 7, 8, 9):
            self.no_guesser(f"next {number}", f"stride {number}", f"pairs {number}")
            self.no_guesser(f"both none next {number}", f"both both none stride {number} none")
        self.no_guesser("pairs 3", "both pairs 3 none")

    def test_four_times_both_around_one(self):
        for text in ("none", "next 1", "stride 3", "pairs 2"):
            self.assertEqual(read("both " * 3 + text + " none" * 3), within(3, read(text), 0))
            for boths in (4, 5, 8, 40):
                self.no_guesser("both " * boths + text + " none" * boths, "both none " * boths + text)
        self.no_guesser("both both none both both none none none none")

    def test_a_very_long_text(self):
        self.no_guesser("both " * 5000 + "none" + " none" * 5000)
        self.refused(BadText, 5000, read, " ".join(["both"] * 5000))
        self.refused(BadText, 10001, read, "both " * 5000 + "none" + " none" * 5000 + " none")

    def test_written_refuses_what_is_no_guesser(self):
        for guesser in [("next", 0), ("next", 4), ("pairs", 3), ("none", 1), (), ("both", NONE), ("x",), ("x", 1),
                        within(4, NONE, 0), within(4, NONE, 1)]:
            self.refused(BadGuesser, None, written, guesser)


if __name__ == "__main__":
    unittest.main()

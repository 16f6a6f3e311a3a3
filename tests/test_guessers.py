import copy
import itertools
import unittest

from stridewell import guessers
from stridewell.guessers import guesses
from tests.model import behind_last
from tests.samples import NONE, SIMPLE, within


class NoneTest(unittest.TestCase):
    def test_it_guesses_nothing(self):
        self.assertEqual(guesses(NONE, [0, 5, 5, 7]), [[], [], [], []])


class NextTest(unittest.TestCase):
    def test_the_next_places_the_nearest_first(self):
        self.assertEqual(guesses(("next", 1), [0, 7, 7]), [[1], [8], [8]])
        self.assertEqual(guesses(("next", 2), [0, 7, 3]), [[1, 2], [8, 9], [4, 5]])
        self.assertEqual(guesses(("next", 3), [0, 7, 3]), [[1, 2, 3], [8, 9, 10], [4, 5, 6]])

    def test_places_may_be_any_numbers(self):
        self.assertEqual(guesses(("next", 1), [31, 10 ** 20]), [[32], [10 ** 20 + 1]])


class StrideTest(unittest.TestCase):
    def test_the_first_place_has_no_stride(self):
        for times in (1, 2, 3):
            self.assertEqual(guesses(("stride", times), [0]), [[]])
            self.assertEqual(guesses(("stride", times), [4]), [[]])

    def test_fewer_than_wanted_just_as_many_and_more(self):
        row = [1, 3, 5, 7, 9, 11]
        self.assertEqual(guesses(("stride", 1), row), [[], [5], [7], [9], [11], [13]])
        self.assertEqual(guesses(("stride", 2), row), [[], [], [7], [9], [11], [13]])
        self.assertEqual(guesses(("stride", 3), row), [[], [], [], [9], [11], [13]])

    def test_a_stride_of_0_guesses_nothing(self):
        for times in (1, 2, 3):
            self.assertEqual(guesses(("stride", times), [0, 0, 0, 0, 0]), [[], [], [], [], []])
            self.assertEqual(guesses(("stride", times), [6, 6, 6, 6, 6]), [[], [], [], [], []])

    def test_a_stride_of_0_breaks_the_row(self):
        self.assertEqual(guesses(("stride", 2), [1, 2, 3, 3, 4, 5]), [[], [], [4], [], [], [6]])

    def test_another_stride_breaks_the_row(self):
        self.assertEqual(guesses(("stride", 2), [0, 2, 4, 7, 9, 11]), [[], [], [6], [], [], [13]])
        self.assertEqual(guesses(("stride", 3), [0, 1, 2, 3, 5, 6, 7, 8]),
                         [[], [], [], [4], [], [], [], [9]])

    def test_strides_as_far_forth_and_back_are_not_the_same(self):
        self.assertEqual(guesses(("stride", 2), [2, 4, 2, 4]), [[], [], [], []])

    def test_a_stride_back(self):
        self.assertEqual(guesses(("stride", 1), [9, 7, 4]), [[], [5], [1]])
        self.assertEqual(guesses(("stride", 2), [9, 6, 3, 0]), [[], [], [0], [-3]])

    def test_a_stride_back_to_a_place_that_there_is_not(self):
        self.assertEqual(guesses(("stride", 1), [5, 2]), [[], [-1]])
        self.assertEqual(guesses(("stride", 1), [5, 0]), [[], [-5]])


class PairsTest(unittest.TestCase):
    def test_what_came_behind_an_earlier_asking(self):
        self.assertEqual(guesses(("pairs", 1), [1, 2, 1]), [[], [], [2]])
        self.assertEqual(guesses(("pairs", 2), [0, 2, 0]), [[], [], [2]])

    def test_the_latest_first(self):
        row = [1, 2, 1, 3, 1, 4, 1]
        self.assertEqual(guesses(("pairs", 1), row), [[], [], [2], [], [3], [], [4]])
        self.assertEqual(guesses(("pairs", 2), row), [[], [], [2], [], [3, 2], [], [4, 3]])

    def test_like_places_are_one(self):
        self.assertEqual(guesses(("pairs", 2), [1, 2, 1, 2, 1]), [[], [], [2], [1], [2]])
        self.assertEqual(guesses(("pairs", 2), [1, 2, 1, 3, 1, 3, 1])[-1], [3, 2])

    def test_one_that_comes_again_is_the_latest(self):
        self.assertEqual(guesses(("pairs", 2), [1, 2, 1, 3, 1, 2, 1])[-1], [2, 3])
        self.assertEqual(guesses(("pairs", 1), [1, 2, 1, 3, 1, 2, 1])[-1], [2])

    def test_the_same_place_twice_came_behind_itself(self):
        self.assertEqual(guesses(("pairs", 1), [3, 3]), [[], [3]])
        self.assertEqual(guesses(("pairs", 2), [3, 3, 5, 3]), [[], [3], [], [5, 3]])
        self.assertEqual(guesses(("pairs", 1), [0, 0]), [[], [0]])

    def test_only_what_came_right_behind(self):
        self.assertEqual(guesses(("pairs", 2), [1, 2, 3, 1]), [[], [], [], [2]])


class BothTest(unittest.TestCase):
    def test_the_one_then_the_other(self):
        self.assertEqual(guesses(("both", ("next", 1), ("stride", 1)), [0, 3, 6]),
                         [[1], [4, 6], [7, 9]])
        self.assertEqual(guesses(("both", ("stride", 1), ("next", 1)), [0, 3, 6]),
                         [[1], [6, 4], [9, 7]])

    def test_a_place_that_both_guess_stands_once_where_the_one_has_it(self):
        self.assertEqual(guesses(("both", ("next", 2), ("stride", 1)), [0, 2, 3]),
                         [[1, 2], [3, 4], [4, 5]])
        self.assertEqual(guesses(("both", ("stride", 1), ("next", 2)), [0, 2, 3]),
                         [[1, 2], [4, 3], [4, 5]])

    def test_twice_the_same_guesser_is_that_guesser(self):
        row = [1, 2, 1, 3, 1, 2, 2, 4, 6]
        for guesser in SIMPLE:
            self.assertEqual(guesses(("both", guesser, guesser), row), guesses(guesser, row))

    def test_each_of_them_sees_all_the_places(self):
        guesser = ("both", ("stride", 2), ("pairs", 2))
        self.assertEqual(guesses(guesser, [1, 2, 3, 1, 2, 3]), [[], [], [4], [2], [3], [4, 1]])

    def test_both_within_both(self):
        guesser = ("both", ("both", ("stride", 1), ("next", 1)), ("both", ("pairs", 1), ("next", 2)))
        self.assertEqual(guesses(guesser, [4, 2, 4, 2]),
                         [[5, 6], [0, 3, 4], [6, 5, 2], [0, 3, 4]])

    def test_three_times_both_around_one(self):
        for guesser in SIMPLE:
            for side in (0, 1):
                with self.subTest(guesser=guesser, side=side):
                    self.assertEqual(guesses(within(3, guesser, side), [0, 1, 2, 3, 0]),
                                     guesses(guesser, [0, 1, 2, 3, 0]))

    def test_three_times_both_around_eight(self):
        first = ("both", ("both", ("next", 1), ("next", 2)), ("both", ("stride", 1), ("pairs", 2)))
        second = ("both", ("both", NONE, ("stride", 3)), ("both", ("pairs", 1), ("next", 3)))
        self.assertEqual(guesses(("both", first, second), [0, 4, 0]),
                         [[1, 2, 3], [5, 6, 8, 7], [1, 2, -4, 4, 3]])


class GuessesTest(unittest.TestCase):
    def test_no_places(self):
        for guesser in [*SIMPLE, ("both", ("next", 1), ("pairs", 2))]:
            self.assertEqual(guesses(guesser, []), [])

    def test_lists_in_a_list(self):
        for guesser in [*SIMPLE, ("both", ("next", 1), ("pairs", 2))]:
            told = guesses(guesser, [1, 2, 1, 2])
            self.assertIs(type(told), list)
            self.assertEqual([type(guessed) for guessed in told], [list] * 4)

    def test_all_short_rows_by_the_words_of_the_document(self):
        boths = [("both", one, other) for one in SIMPLE for other in SIMPLE]
        deeper = [("both", ("both", SIMPLE[3], SIMPLE[5]), SIMPLE[8]),
                  ("both", SIMPLE[7], ("both", SIMPLE[4], ("both", SIMPLE[2], SIMPLE[8])))]
        rows = [list(row) for length in range(6) for row in itertools.product(range(3), repeat=length)]
        for guesser in [*SIMPLE, *boths, *deeper]:
            for row in rows:
                wanted = [behind_last(guesser, row[:at + 1]) for at in range(len(row))]
                self.assertEqual(guesses(guesser, row), wanted, (guesser, row))

    def test_longer_rows_by_the_words_of_the_document(self):
        rows = [[at * step % many for at in range(40)] for many in (4, 5, 7, 13) for step in (1, 2, 3)]
        rows += [[at * at % many for at in range(40)] for many in (5, 7, 11, 16)]
        for guesser in [*SIMPLE, ("both", ("pairs", 2), ("both", ("stride", 2), ("next", 3)))]:
            for row in rows:
                wanted = [behind_last(guesser, row[:at + 1]) for at in range(len(row))]
                self.assertEqual(guesses(guesser, row), wanted, (guesser, row))

    def test_it_is_defined_where_the_interface_lists_it(self):
        self.assertIs(guessers.guesses, guesses)
        self.assertEqual(guesses.__module__, "stridewell.guessers")


class NothingKeptTest(unittest.TestCase):
    GUESSERS = [*SIMPLE, ("both", ("pairs", 2), ("next", 2)), ("both", NONE, ("pairs", 2))]
    ROW = [1, 2, 1, 3, 1, 2, 1, 1, 4, 7, 10, 13]

    def test_what_is_handed_in_stays_as_it_was(self):
        for guesser in self.GUESSERS:
            row = list(self.ROW)
            guesses(guesser, row)
            self.assertEqual(row, self.ROW)

    def test_the_same_asking_tells_the_same_when_what_was_told_is_changed(self):
        for guesser in self.GUESSERS:
            row = list(self.ROW)
            told = guesses(guesser, row)
            kept = copy.deepcopy(told)
            for guessed in told:
                guessed.append(99)
            told.clear()
            self.assertEqual(guesses(guesser, row), kept)
            self.assertEqual(row, self.ROW)

    def test_a_list_that_was_told_is_no_other_one(self):
        for guesser in self.GUESSERS:
            told = guesses(guesser, self.ROW)
            kept = copy.deepcopy(told)
            for at in range(len(told)):
                told[at].append(99)
                self.assertEqual(told, [*[[*row, 99] for row in kept[:at + 1]], *kept[at + 1:]])

    def test_what_was_told_stays_when_what_was_handed_in_is_changed(self):
        for guesser in self.GUESSERS:
            row = list(self.ROW)
            told = guesses(guesser, row)
            kept = copy.deepcopy(told)
            row[0] = 30
            row.append(31)
            self.assertEqual(told, kept)
            row.clear()
            self.assertEqual(told, kept)

    def test_one_asking_knows_nothing_of_the_one_ahead(self):
        for guesser in self.GUESSERS:
            kept = guesses(guesser, [2, 4])
            guesses(guesser, [2, 5, 2, 4, 2, 0])
            self.assertEqual(guesses(guesser, [2, 4]), kept)


if __name__ == "__main__":
    unittest.main()

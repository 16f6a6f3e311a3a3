import itertools
import unittest

from stridewell.errors import BadAsk
from stridewell.judging import cost, worst
from tests.asking import RefusalTest, ask
from tests.samples import MEMORY, MIXED, NONE, SIMPLE, reads, setting

NEXT = ("next", 1)
STRIDE = ("stride", 1)
PAIRS = ("pairs", 1)


def worst_of(setting, guesser, other, weights, places, length):
    """The same as the document's words tell it, over all rows one by one."""
    told = []
    for row in itertools.product(range(places), repeat=length):
        deeds = reads(*row)
        told.append((cost(setting, guesser, deeds, weights) - cost(setting, other, deeds, weights), list(row)))
    most = max(more for more, _ in told)
    return most, min(row for more, row in told if more == most)


class WorstTest(unittest.TestCase):
    def test_one_guesser_against_itself(self):
        for guesser in SIMPLE + MIXED:
            self.assertEqual(worst(setting(2, 1, 2), guesser, guesser, (1, 2, 3), 3, 3), (0, [0, 0, 0]))

    def test_against_another_one_and_the_other_way_about(self):
        chosen = setting(8, 0, 1)
        self.assertEqual(worst(chosen, NEXT, NONE, (0, 0, 1), 3, 2), (2, [0, 2]))
        self.assertEqual(worst(chosen, NONE, NEXT, (0, 0, 1), 3, 2), (-1, [0, 0]))
        self.assertEqual(worst(chosen, NEXT, NONE, (0, 1, 0), 3, 2), (0, [0, 0]))
        self.assertEqual(worst(chosen, NONE, NEXT, (0, 1, 0), 2, 2), (1, [0, 1]))
        self.assertEqual(worst(chosen, NONE, NEXT, (0, 1, 0), 4, 4), (3, [0, 1, 2, 3]))

    def test_a_length_of_0(self):
        for places in (1, 2, 3, 4):
            self.assertEqual(worst(setting(2, 1, 2), ("next", 3), NONE, (9, 9, 9), places, 0), (0, []))

    def test_a_length_of_1(self):
        self.assertEqual(worst(setting(2, 1, 4), ("next", 3), NONE, (9, 9, 9), 4, 1), (27, [0]))
        self.assertEqual(worst(setting(2, 1, 4, (1, 2)), ("next", 3), NONE, (9, 9, 9), 2, 1), (9, [0]))

    def test_one_place(self):
        for length in range(8):
            self.assertEqual(worst(setting(2, 1, 2), PAIRS, NONE, (1, 2, 3), 1, length), (0, [0] * length))

    def test_a_memory_of_one_place(self):
        self.assertEqual(worst(((4,), 1, 0, 1), ("next", 3), NONE, (1, 2, 3), 1, 3), (0, [0, 0, 0]))

    def test_a_difference_below_0(self):
        self.assertEqual(worst(setting(2, 0, 1), NONE, NEXT, (0, 0, 1), 1, 2), (-1, [0, 0]))
        self.assertEqual(worst(setting(2, 0, 1), NONE, ("next", 3), (0, 0, 9), 1, 1), (-9, [0]))
        self.assertEqual(worst(setting(2, 0, 4), NONE, ("next", 3), (0, 1, 9), 2, 1), (-27, [0]))

    def test_the_first_such_row(self):
        self.assertEqual(worst(setting(1, 0, 1), NONE, STRIDE, (0, 0, 0), 4, 3), (0, [0, 0, 0]))
        self.assertEqual(worst(setting(8, 0, 1), STRIDE, NONE, (0, 0, 1), 4, 2), (1, [0, 1]))
        self.assertEqual(worst(setting(8, 0, 1), NONE, NEXT, (0, 1, 0), 3, 3), (2, [0, 1, 2]))

    def test_reads_of_the_first_places_alone(self):
        asked = (setting(8, 0, 4, (1,) * 32), ("next", 3), NONE, (1, 1, 1))
        self.assertEqual(worst(*asked, 2, 4), worst_of(*asked, 2, 4))
        self.assertLess(worst(*asked, 2, 4)[0], worst(*asked, 3, 4)[0])

    def test_the_most_rows_that_may_be_asked(self):
        for places, length in [(4, 5), (3, 6), (2, 7), (1, 7)]:
            for one, other in [(NEXT, STRIDE), (PAIRS, ("next", 2))]:
                asked = (setting(2, 1, 2), one, other, (2, 3, 1), places, length)
                self.assertEqual(worst(*asked), worst_of(*asked))

    def test_the_last_of_all_rows(self):
        self.assertEqual(worst(setting(1, 0, 1, (1, 2)), NONE, NEXT, (0, 0, 1), 2, 1), (0, [1]))
        self.assertEqual(worst(setting(1, 4, 1, (1, 2)), NONE, NEXT, (1, 0, 1), 2, 2), (0, [1, 1]))

    def test_each_pair_of_guessers(self):
        for one, other in itertools.product([NONE, NEXT, STRIDE, ("pairs", 2), MIXED[0]], repeat=2):
            for room, late, most in [(1, 0, 1), (2, 1, 2), (3, 0, 4)]:
                asked = (setting(room, late, most, MEMORY[:4]), one, other, (2, 3, 1), 3, 4)
                self.assertEqual(worst(*asked), worst_of(*asked))

    def test_a_tuple_of_a_number_and_a_list_of_numbers(self):
        told = worst(setting(2, 1, 2), NEXT, NONE, (1, 2, 3), 3, 3)
        self.assertIs(type(told), tuple)
        self.assertEqual([type(part) for part in told], [int, list])
        self.assertEqual([type(place) for place in told[1]], [int] * 3)


class BadAskTest(RefusalTest):
    def no_ask(self, places, length, memory=MEMORY):
        self.ask_refused(BadAsk, None, "worst", setting=setting(2, 0, 1, memory), places=places, length=length)

    def test_places_below_1_and_beyond_4(self):
        for places in (0, -1, 5, 6, 8, 100):
            for length in (0, 1, 3, 7):
                self.no_ask(places, length)

    def test_more_places_than_there_are(self):
        for many in (1, 2, 3):
            for places in range(1, 5):
                for length in (0, 1, 4):
                    if places > many:
                        self.no_ask(places, length, MEMORY[:many])
                    else:
                        ask("worst", setting=setting(2, 0, 1, MEMORY[:many]), places=places, length=length)

    def test_lengths_below_0_and_beyond_7(self):
        for places in (1, 2, 3, 4):
            for length in (-1, -2, 8, 9, 10, 100):
                self.no_ask(places, length)

    def test_more_rows_than_1024(self):
        for places, length in itertools.product(range(1, 5), range(8)):
            if places ** length > 1024:
                self.no_ask(places, length)
            else:
                ask("worst", places=places, length=length)
        self.no_ask(4, 6)
        self.no_ask(3, 7)


if __name__ == "__main__":
    unittest.main()

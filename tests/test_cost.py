import itertools
import unittest

from stridewell.errors import BadAsk
from stridewell.judging import cost, held
from tests import model
from tests.asking import RefusalTest, ask, takers
from tests.samples import MIXED, NONE, SIMPLE, mixed_row, reads, setting

# Under this setting and guesser this row has 3 lates, 3 misses, 4 wasted and 3 idle ones.
SETTING = setting(2, 1, 3)
GUESSER = ("next", 3)
ROW = reads(0, 1, 4, 5, 5, 0)
NO_WEIGHTS = [
    (), (1,), (1, 2), (1, 2, 3, 4), (-1, 0, 0), (0, -1, 0), (0, 0, -1), (10, 0, 0), (0, 10, 0), (0, 0, 10),
    (10, 10, 10), (9, 9, 100), (-1, 10, 5),
]


class CostTest(unittest.TestCase):
    def test_lates_misses_wasted_and_idle_ones_each_so_many_times(self):
        self.assertEqual(cost(SETTING, GUESSER, ROW, (1, 0, 0)), 3)
        self.assertEqual(cost(SETTING, GUESSER, ROW, (0, 1, 0)), 3)
        self.assertEqual(cost(SETTING, GUESSER, ROW, (0, 0, 1)), 7)
        self.assertEqual(cost(SETTING, GUESSER, ROW, (1, 2, 3)), 3 + 6 + 21)
        self.assertEqual(cost(SETTING, GUESSER, ROW, (2, 9, 4)), 6 + 27 + 28)

    def test_late_ahead_of_miss(self):
        # One miss, then two lates; the last one that was started is idle.
        self.assertEqual(cost(setting(2, 4, 1), ("next", 1), reads(0, 1, 2), (5, 7, 0)), 17)
        self.assertEqual(cost(setting(2, 4, 1), ("next", 1), reads(0, 1, 2), (5, 7, 1)), 18)

    def test_wasted_alone_and_idle_alone(self):
        # 7 is wasted once, then asked; and 7 lies on the shelf unasked at the end.
        self.assertEqual(cost(setting(1, 0, 1), ("next", 1), reads(6, 6, 7, 7), (0, 0, 8)), 8)
        self.assertEqual(cost(setting(2, 0, 1), ("next", 1), reads(6, 6), (0, 0, 8)), 8)

    def test_weights_of_0_and_of_9(self):
        self.assertEqual(cost(SETTING, GUESSER, ROW, (0, 0, 0)), 0)
        self.assertEqual(cost(SETTING, GUESSER, ROW, (9, 9, 9)), 9 * 13)

    def test_a_hit_and_an_empty_row_cost_nothing(self):
        self.assertEqual(cost(SETTING, NONE, reads(4, 4, 4, 4), (9, 9, 9)), 9)
        self.assertEqual(cost(SETTING, GUESSER, [], (9, 9, 9)), 0)

    def test_writes_cost_as_reads_do(self):
        row = [("write", place, 3) for _, place in ROW]
        self.assertEqual(cost(SETTING, GUESSER, row, (1, 2, 3)), 30)

    def test_by_the_words_of_the_document(self):
        for at, (guesser, room, late) in enumerate(itertools.product(SIMPLE + MIXED, (1, 3), (0, 1, 4))):
            chosen = setting(room, late, at % 4 + 1)
            row = mixed_row(25, 3 + at % 6, at)
            weights = (at % 10, at // 3 % 10, at // 7 % 10)
            self.assertEqual(cost(chosen, guesser, row, weights), model.cost_of(chosen, guesser, row, weights))

    def test_a_number(self):
        self.assertIs(type(cost(SETTING, GUESSER, ROW, (1, 2, 3))), int)


class HeldTest(unittest.TestCase):
    WEIGHTS = (1, 2, 3)

    def test_rising_by_cost(self):
        guessers = [("next", 3), NONE, ("next", 1), ("stride", 1)]
        costs = [model.cost_of(SETTING, guesser, ROW, self.WEIGHTS) for guesser in guessers]
        self.assertEqual(costs, [30, 10, 17, 19])
        self.assertEqual(held(SETTING, guessers, ROW, self.WEIGHTS), [(10, 1), (17, 2), (19, 3), (30, 0)])

    def test_no_guesser(self):
        self.assertEqual(held(SETTING, [], ROW, self.WEIGHTS), [])

    def test_one_guesser(self):
        self.assertEqual(held(SETTING, [GUESSER], ROW, self.WEIGHTS), [(30, 0)])

    def test_alike_guessers_rise_by_number(self):
        self.assertEqual(held(SETTING, [GUESSER, NONE] * 4, ROW, self.WEIGHTS),
                         [(10, 1), (10, 3), (10, 5), (10, 7), (30, 0), (30, 2), (30, 4), (30, 6)])

    def test_guessers_of_one_cost_rise_by_number(self):
        guessers = [("stride", 3), ("pairs", 2), NONE, ("pairs", 1)]
        self.assertEqual(held(SETTING, guessers, reads(0, 1), self.WEIGHTS), [(4, 0), (4, 1), (4, 2), (4, 3)])

    def test_eight_guessers(self):
        for weights in [(1, 2, 3), (9, 9, 9), (0, 0, 0), (3, 0, 1)]:
            for guessers in (SIMPLE[1:], SIMPLE[:8], MIXED + MIXED):
                wanted = [(cost(SETTING, guesser, ROW, weights), at) for at, guesser in enumerate(guessers)]
                self.assertEqual(held(SETTING, guessers, ROW, weights), sorted(wanted))

    def test_a_list_of_tuples(self):
        told = held(SETTING, [GUESSER, NONE], ROW, self.WEIGHTS)
        self.assertIs(type(told), list)
        self.assertEqual([type(pair) for pair in told], [tuple, tuple])
        self.assertEqual([type(part) for pair in told for part in pair], [int] * 4)


class BadAskTest(RefusalTest):
    def test_other_weights(self):
        for weights in NO_WEIGHTS:
            for name in takers("weights"):
                self.ask_refused(BadAsk, None, name, weights=weights)

    def test_weights_at_their_bounds(self):
        for weights in itertools.product((0, 9), repeat=3):
            for name in takers("weights"):
                ask(name, weights=weights)
        self.assertEqual(takers("weights"), ["cost", "held", "worst"])

    def test_other_weights_for_no_guesser_and_for_an_empty_row(self):
        for weights in NO_WEIGHTS:
            self.ask_refused(BadAsk, None, "held", guessers=[], weights=weights)
            self.ask_refused(BadAsk, None, "held", row=[], weights=weights)
            self.ask_refused(BadAsk, None, "cost", row=[], weights=weights)
            self.ask_refused(BadAsk, None, "worst", length=0, weights=weights)

    def test_more_than_8_guessers(self):
        for many in (9, 10, 20):
            self.ask_refused(BadAsk, None, "held", guessers=[NONE] * many)


if __name__ == "__main__":
    unittest.main()

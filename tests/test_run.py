import itertools
import unittest

from stridewell.running import run, story
from tests import model
from tests.samples import MEMORY, MIXED, NONE, SIMPLE, mixed_row, reads, setting

NEXT = ("next", 1)
SETTINGS = [setting(*parts) for parts in [(1, 0, 1), (2, 0, 2), (3, 1, 4), (8, 4, 4), (1, 4, 1), (4, 2, 3)]]


class NumbersTest(unittest.TestCase):
    def answers(self, answers, memory, setting, guesser, row):
        self.assertEqual(run(setting, guesser, row)[:2], (answers, memory))

    def test_an_empty_row(self):
        for guesser in SIMPLE + MIXED:
            self.assertEqual(run(SETTINGS[0], guesser, []), ([], MEMORY, (0, 0, 0, 0, 0, 0, 0)))

    def test_reads_of_memory(self):
        self.answers([10, 87, 10], MEMORY, setting(1, 0, 1), NONE, reads(0, 7, 0))

    def test_writes_alone_are_not_answered(self):
        self.answers([], (5, 0, 99), setting(1, 0, 1, (1, 2, 3)), NONE,
                     [("write", 2, 99), ("write", 1, 0), ("write", 0, 4), ("write", 0, 5)])

    def test_a_read_behind_a_write_that_missed(self):
        self.answers([50], (10, 50), setting(2, 0, 1, (10, 20)), NONE, [("write", 1, 50), ("read", 1)])

    def test_a_read_behind_a_write_on_the_shelf(self):
        self.answers([20, 50, 51], (10, 51), setting(2, 0, 1, (10, 20)), NONE,
                     [("read", 1), ("write", 1, 50), ("read", 1), ("write", 1, 51), ("read", 1)])

    def test_a_read_behind_a_write_of_what_was_fetched_ahead(self):
        row = [("read", 0), ("write", 1, 50), ("read", 1)]
        self.assertIn((1, "first", 1), story(setting(2, 0, 1, (10, 20)), NEXT, row))
        self.answers([10, 50], (10, 50), setting(2, 0, 1, (10, 20)), NEXT, row)

    def test_a_read_behind_a_write_of_what_was_on_the_way(self):
        row = [("read", 0), ("write", 1, 50), ("read", 1), ("read", 0), ("read", 1)]
        self.assertIn((1, "late", 1), story(setting(2, 1, 1, (10, 20)), NEXT, row))
        self.answers([10, 50, 10, 50], (10, 50), setting(2, 1, 1, (10, 20)), NEXT, row)

    def test_a_read_behind_a_write_of_what_had_left(self):
        row = [("read", 1), ("read", 0), ("write", 1, 50), ("read", 0), ("read", 1)]
        self.assertIn((1, "leave", 1), story(setting(1, 0, 1, (10, 20)), NONE, row))
        self.answers([20, 10, 10, 50], (10, 50), setting(1, 0, 1, (10, 20)), NONE, row)

    def test_a_read_of_what_was_written_and_has_left(self):
        row = [("write", 1, 50), ("read", 0), ("read", 1)]
        self.answers([10, 50], (10, 50), setting(1, 0, 1, (10, 20)), NONE, row)

    def test_what_comes_has_the_number_that_memory_has_then(self):
        row = [("write", 1, 50), ("read", 0), ("write", 2, 60), ("read", 0), ("read", 1)]
        for late in range(5):
            self.answers([10, 10, 50], (10, 50, 60), setting(1, late, 4, (10, 20, 30)), ("next", 2), row)

    def test_the_same_number_written_again(self):
        self.answers([20, 20], (10, 20), setting(1, 0, 1, (10, 20)), NONE,
                     [("read", 1), ("write", 1, 20), ("read", 1)])

    def test_they_are_those_that_there_would_be_without_any_shelf(self):
        rows = [mixed_row(length, places, step) for length, places, step in
                [(5, 2, 1), (12, 3, 1), (20, 4, 3), (40, 8, 2), (100, 8, 5)]]
        for row in rows:
            numbers = model.numbers_of(MEMORY, row)
            for guesser in SIMPLE + MIXED:
                for chosen in SETTINGS:
                    self.assertEqual(run(chosen, guesser, row)[:2], numbers)

    def test_all_short_rows_without_any_shelf(self):
        deeds = [("read", 0), ("read", 1), ("write", 0, 30), ("write", 1, 40), ("read", 2)]
        for row in itertools.product(deeds, repeat=4):
            for guesser in (NONE, ("next", 2), ("pairs", 2)):
                numbers = model.numbers_of((1, 2, 3), row)
                self.assertEqual(run(((1, 2, 3), 1, 0, 1), guesser, list(row))[:2], numbers)
                self.assertEqual(run(((1, 2, 3), 2, 1, 2), guesser, list(row))[:2], numbers)


class CountsTest(unittest.TestCase):
    def counts(self, counts, room, late, most, guesser, places):
        self.assertEqual(run(setting(room, late, most), guesser, reads(*places))[2], counts)

    def test_hits_and_misses(self):
        self.counts((2, 0, 1, 0, 0, 0, 0), 1, 0, 1, NONE, [0, 0, 0])
        self.counts((0, 0, 3, 0, 0, 0, 0), 1, 0, 1, NONE, [0, 1, 0])

    def test_a_first_ask_is_a_hit_and_used_once(self):
        self.counts((1, 0, 1, 1, 1, 0, 0), 2, 0, 1, NEXT, [6, 7])
        self.counts((3, 0, 1, 1, 1, 0, 0), 2, 0, 1, NEXT, [6, 7, 7, 7])

    def test_what_was_late_is_used(self):
        self.counts((0, 1, 1, 1, 1, 0, 0), 2, 1, 1, NEXT, [6, 7])
        self.counts((2, 1, 1, 1, 1, 0, 0), 2, 1, 1, NEXT, [6, 7, 7, 6])

    def test_what_was_wasted(self):
        # It is fetched twice: the first time it leaves unasked, the second time it is asked.
        self.counts((2, 0, 2, 2, 1, 1, 0), 1, 0, 1, NEXT, [6, 6, 7, 7])
        self.counts((0, 0, 2, 2, 0, 1, 1), 1, 0, 1, NEXT, [6, 6])

    def test_what_leaves_and_was_asked_is_not_wasted(self):
        self.counts((1, 0, 2, 2, 1, 0, 1), 1, 0, 1, NEXT, [6, 7, 0])
        self.counts((0, 1, 2, 2, 1, 0, 1), 1, 1, 1, NEXT, [6, 7, 0])

    def test_all_of_them_together(self):
        self.counts((2, 0, 1, 7, 2, 2, 3), 2, 0, 3, ("next", 3), [0, 2, 4])
        self.counts((0, 3, 3, 10, 3, 4, 3), 2, 1, 3, ("next", 3), [0, 1, 4, 5, 5, 0])

    def test_idle_on_the_way_at_the_end(self):
        self.counts((0, 0, 1, 1, 0, 0, 1), 1, 0, 1, NEXT, [0])
        self.counts((0, 0, 1, 3, 0, 0, 3), 1, 4, 4, ("next", 3), [0])

    def test_idle_on_the_shelf_at_the_end(self):
        self.counts((1, 0, 1, 1, 0, 0, 1), 2, 0, 1, NEXT, [6, 6])
        self.counts((1, 0, 1, 3, 0, 0, 3), 8, 0, 3, ("next", 3), [0, 0])

    def test_idle_on_the_shelf_and_on_the_way(self):
        self.counts((0, 0, 2, 2, 0, 0, 2), 8, 0, 1, NEXT, [0, 4])


class SumsTest(unittest.TestCase):
    ROWS = [mixed_row(length, places, step) for length in (1, 7, 30) for places in (2, 5, 8) for step in (1, 3)]

    def told(self):
        for row in self.ROWS:
            for guesser in SIMPLE + MIXED:
                for chosen in SETTINGS:
                    yield chosen, guesser, row, run(chosen, guesser, row)[2]

    def test_ahead_is_used_wasted_and_idle_together(self):
        for chosen, guesser, row, (_, _, _, ahead, used, wasted, idle) in self.told():
            self.assertEqual(ahead, used + wasted + idle, (chosen, guesser, row))

    def test_hits_lates_and_misses_are_as_many_as_deeds(self):
        for chosen, guesser, row, (hits, lates, misses, *_) in self.told():
            self.assertEqual(hits + lates + misses, len(row), (chosen, guesser, row))

    def test_each_count_by_the_words_of_the_document(self):
        seen = [0] * 7
        for chosen, guesser, row, counts in self.told():
            self.assertEqual(counts, model.counts_of(story(chosen, guesser, row)), (chosen, guesser, row))
            seen = [most + count for most, count in zip(seen, counts)]
        self.assertGreater(min(seen), 0)

    def test_none_fetches_nothing_ahead(self):
        for row in self.ROWS:
            for chosen in SETTINGS:
                self.assertEqual(run(chosen, NONE, row)[2][3:], (0, 0, 0, 0))


class KindsTest(unittest.TestCase):
    def test_a_tuple_of_a_list_and_two_tuples(self):
        for row in ([], reads(0, 1), [("write", 0, 1)]):
            told = run(SETTINGS[1], NEXT, row)
            self.assertIs(type(told), tuple)
            self.assertEqual([type(part) for part in told], [list, tuple, tuple])
            self.assertEqual([len(told[1]), len(told[2])], [len(MEMORY), 7])
            for number in [*told[0], *told[1], *told[2]]:
                self.assertIs(type(number), int)


if __name__ == "__main__":
    unittest.main()

import itertools
import unittest

from stridewell.running import story
from tests import model
from tests.samples import MEMORY, MIXED, NONE, SIMPLE, mixed_row, reads, setting

NEXT = ("next", 1)
STRIDE = ("stride", 1)


class StoryTest(unittest.TestCase):
    maxDiff = None

    def tells(self, told, room, late, most, guesser, places):
        self.assertEqual(story(setting(room, late, most), guesser, reads(*places)), told)


class AskedTest(StoryTest):
    def test_an_empty_row(self):
        for guesser in SIMPLE:
            self.tells([], 1, 0, 1, guesser, [])

    def test_a_miss_then_hits(self):
        self.tells([(0, "miss", 3), (1, "hit", 3), (2, "hit", 3)], 1, 0, 1, NONE, [3, 3, 3])

    def test_turns_are_numbered_from_0(self):
        told = story(setting(1, 0, 1), NONE, reads(*[1, 2] * 50))
        self.assertEqual([turn for turn, word, _ in told if word == "miss"], list(range(100)))

    def test_the_first_ask_of_what_was_fetched_ahead_and_a_later_one(self):
        self.tells([
            (0, "miss", 6), (0, "start", 7),
            (1, "come", 7), (1, "first", 7),
            (2, "hit", 7), (3, "hit", 6), (4, "hit", 7),
        ], 2, 0, 1, NEXT, [6, 7, 7, 6, 7])

    def test_a_first_ask_long_behind_the_coming(self):
        self.tells([
            (0, "miss", 6), (0, "start", 7),
            (1, "come", 7), (1, "hit", 6), (2, "hit", 6), (3, "first", 7), (4, "hit", 6),
        ], 2, 0, 1, NEXT, [6, 6, 6, 7, 6])

    def test_a_place_that_is_asked_while_it_is_on_the_way(self):
        self.tells([
            (0, "miss", 6), (0, "start", 7),
            (1, "late", 7), (2, "hit", 7), (3, "hit", 7), (4, "hit", 7),
        ], 2, 2, 1, NEXT, [6, 7, 7, 7, 7])

    def test_what_was_late_comes_no_more(self):
        for late in (1, 2, 3, 4):
            told = story(setting(8, late, 1), NEXT, reads(6, 7, 7, 7, 7, 7, 7))
            self.assertEqual([word for _, word, _ in told],
                             ["miss", "start", "late", "hit", "hit", "hit", "hit", "hit"])

    def test_what_was_late_leaves_and_is_no_waste(self):
        self.tells([
            (0, "miss", 6), (0, "start", 7),
            (1, "leave", 6), (1, "late", 7),
            (2, "leave", 7), (2, "miss", 1), (2, "start", 2),
        ], 1, 1, 1, NEXT, [6, 7, 1])

    def test_a_write_is_told_as_a_read(self):
        places = [0, 1, 2, 0, 4, 3, 2, 2, 6, 7]
        for guesser in SIMPLE + MIXED:
            for room in (1, 3):
                told = story(setting(room, 0, 2), guesser, reads(*places))
                row = [("write", place, 50) for place in places]
                self.assertEqual(story(setting(room, 0, 2), guesser, row), told)


class LateTest(StoryTest):
    def test_fetches_late_by_0_to_4_come_so_many_turns_and_one_behind_their_start(self):
        for late in range(5):
            told = story(setting(2, late, 1), NEXT, reads(*[6] * 8))
            self.assertEqual([event for event in told if event[1] in ("start", "come")],
                             [(0, "start", 7), (late + 1, "come", 7)])

    def test_a_place_that_comes_in_the_turn_in_which_it_is_asked(self):
        for late in range(5):
            told = story(setting(2, late, 1), NEXT, reads(*[6] * (late + 1), 7))
            self.assertEqual(told[-2:], [(late + 1, "come", 7), (late + 1, "first", 7)])

    def test_a_place_that_is_asked_one_turn_ahead_of_its_coming(self):
        for late in range(1, 5):
            told = story(setting(2, late, 1), NEXT, reads(*[6] * late, 7))
            self.assertEqual(told[-1], (late, "late", 7))
            self.assertNotIn("come", [word for _, word, _ in told])

    def test_a_place_that_is_asked_behind_its_coming(self):
        for late in range(5):
            told = story(setting(2, late, 1), NEXT, reads(*[6] * (late + 2), 7))
            self.assertEqual(told[-3:], [(late + 1, "come", 7), (late + 1, "hit", 6), (late + 2, "first", 7)])

    def test_what_is_started_in_the_last_turn_is_told(self):
        for late in range(5):
            self.tells([(0, "miss", 2), (0, "start", 3)], 1, late, 1, NEXT, [2])

    def test_two_that_were_started_in_two_turns_come_in_two_turns(self):
        self.tells([
            (0, "miss", 0), (0, "start", 1),
            (1, "miss", 4), (1, "start", 5),
            (2, "come", 1), (2, "hit", 0),
            (3, "come", 5), (3, "hit", 0),
        ], 8, 1, 2, NEXT, [0, 4, 0, 0])


class ShelfTest(StoryTest):
    def test_room_for_1(self):
        self.tells([
            (0, "miss", 0), (1, "leave", 0), (1, "miss", 1), (2, "hit", 1), (3, "leave", 1), (3, "miss", 0),
        ], 1, 0, 1, NONE, [0, 1, 1, 0])

    def test_room_for_1_and_one_that_comes(self):
        self.tells([
            (0, "miss", 0), (0, "start", 1),
            (1, "leave", 0), (1, "come", 1), (1, "first", 1), (1, "start", 2),
            (2, "leave", 1), (2, "come", 2), (2, "waste", 2), (2, "miss", 1), (2, "start", 2),
        ], 1, 0, 1, NEXT, [0, 1, 1])

    def test_what_was_asked_longest_ago_leaves(self):
        self.tells([
            (0, "miss", 0), (1, "miss", 1), (2, "miss", 2), (3, "hit", 0),
            (4, "leave", 1), (4, "miss", 3), (5, "leave", 2), (5, "miss", 4),
            (6, "leave", 0), (6, "miss", 5), (7, "leave", 3), (7, "miss", 1),
        ], 3, 0, 1, NONE, [0, 1, 2, 0, 3, 4, 5, 1])

    def test_nothing_leaves_ahead_of_a_full_shelf(self):
        for room in range(1, 9):
            told = story(setting(room, 0, 1, tuple(range(9))), NONE, reads(*range(9)))
            wanted = []
            for turn in range(9):
                wanted += [(turn, "leave", turn - room)] if turn >= room else []
                wanted += [(turn, "miss", turn)]
            self.assertEqual(told, wanted)

    def test_a_hit_on_a_full_shelf_lets_nothing_leave(self):
        self.tells([
            (0, "miss", 0), (1, "miss", 1), (2, "hit", 0), (3, "hit", 1), (4, "hit", 0), (5, "leave", 1),
            (5, "miss", 2),
        ], 2, 0, 1, NONE, [0, 1, 0, 1, 0, 2])

    def test_what_was_laid_longest_ago_is_wasted_where_it_was_never_asked(self):
        self.tells([
            (0, "miss", 0), (0, "start", 1),
            (1, "come", 1), (1, "hit", 0),
            (2, "waste", 1), (2, "miss", 7),
            (3, "leave", 0), (3, "miss", 1), (3, "start", 2),
        ], 2, 0, 1, NEXT, [0, 0, 7, 1])

    def test_what_was_fetched_ahead_and_asked_leaves(self):
        self.tells([
            (0, "miss", 6), (0, "start", 7),
            (1, "come", 7), (1, "first", 7),
            (2, "leave", 6), (2, "miss", 0), (2, "start", 1),
            (3, "leave", 7), (3, "come", 1), (3, "hit", 0),
        ], 2, 0, 1, NEXT, [6, 7, 0, 0])

    def test_what_was_first_lies_newest(self):
        self.tells([
            (0, "miss", 5), (0, "start", 6),
            (1, "come", 6), (1, "miss", 7),
            (2, "first", 6),
            (3, "leave", 5), (3, "miss", 4), (3, "start", 5),
            (4, "leave", 7), (4, "come", 5), (4, "hit", 4),
        ], 3, 0, 1, NEXT, [5, 7, 6, 4, 4])

    def test_what_was_late_lies_newest(self):
        self.tells([
            (0, "miss", 6), (0, "start", 7),
            (1, "miss", 3), (1, "start", 4),
            (2, "leave", 6), (2, "late", 7),
            (3, "leave", 3), (3, "miss", 0), (3, "start", 1),
            (4, "leave", 7), (4, "come", 4), (4, "hit", 0),
        ], 2, 2, 2, NEXT, [6, 3, 7, 0, 0])

    def test_the_leaving_stands_ahead_of_what_is_late(self):
        self.tells([
            (0, "miss", 6), (0, "start", 7),
            (1, "hit", 6), (2, "leave", 6), (2, "late", 7),
        ], 1, 4, 1, NEXT, [6, 6, 7])

    def test_what_was_wasted_is_missed_then(self):
        self.tells([
            (0, "miss", 6), (0, "start", 7),
            (1, "leave", 6), (1, "come", 7), (1, "waste", 7), (1, "miss", 3), (1, "start", 4),
            (2, "leave", 3), (2, "come", 4), (2, "waste", 4), (2, "miss", 7),
            (3, "hit", 7),
            (4, "leave", 7), (4, "miss", 6), (4, "start", 7),
        ], 1, 0, 1, NEXT, [6, 3, 7, 7, 6])

    def test_what_was_wasted_may_be_started_again(self):
        self.tells([
            (0, "miss", 0), (0, "start", 1),
            (1, "leave", 0), (1, "come", 1), (1, "waste", 1), (1, "miss", 0), (1, "start", 1),
            (2, "leave", 0), (2, "come", 1), (2, "first", 1), (2, "start", 2),
        ], 1, 0, 1, NEXT, [0, 0, 1])


class ComingTest(StoryTest):
    def test_several_in_the_order_in_which_they_were_started(self):
        self.tells([
            (0, "miss", 5), (0, "start", 6),
            (1, "come", 6), (1, "miss", 3), (1, "start", 4), (1, "start", 1),
            (2, "come", 4), (2, "come", 1), (2, "hit", 3),
        ], 8, 0, 4, ("both", NEXT, STRIDE), [5, 3, 3])
        self.tells([
            (0, "miss", 5), (0, "start", 6),
            (1, "come", 6), (1, "miss", 3), (1, "start", 1), (1, "start", 4),
            (2, "come", 1), (2, "come", 4), (2, "hit", 3),
        ], 8, 0, 4, ("both", STRIDE, NEXT), [5, 3, 3])

    def test_several_on_a_full_shelf(self):
        self.tells([
            (0, "miss", 0), (0, "start", 1), (0, "start", 2), (0, "start", 3),
            (1, "leave", 0), (1, "come", 1), (1, "waste", 1), (1, "come", 2), (1, "waste", 2), (1, "come", 3),
            (1, "waste", 3), (1, "miss", 7),
        ], 1, 0, 3, ("next", 3), [0, 7])
        self.tells([
            (0, "miss", 0), (0, "start", 1), (0, "start", 2), (0, "start", 3),
            (1, "come", 1), (1, "leave", 0), (1, "come", 2), (1, "waste", 1), (1, "come", 3), (1, "first", 2),
            (1, "start", 4), (1, "start", 5),
            (2, "waste", 3), (2, "come", 4), (2, "leave", 2), (2, "come", 5), (2, "first", 4),
            (2, "start", 6), (2, "start", 7),
        ], 2, 0, 3, ("next", 3), [0, 2, 4])

    def test_what_leaves_as_another_one_comes_is_missed_in_that_turn(self):
        self.tells([
            (0, "miss", 0), (0, "start", 1),
            (1, "leave", 0), (1, "come", 1), (1, "waste", 1), (1, "miss", 0), (1, "start", 1),
        ], 1, 0, 1, NEXT, [0, 0])

    def test_one_of_several_is_late_and_the_others_come(self):
        self.tells([
            (0, "miss", 0), (0, "start", 1), (0, "start", 2), (0, "start", 3),
            (1, "late", 2), (1, "start", 4), (2, "come", 1), (2, "come", 3), (2, "hit", 0),
        ], 8, 1, 3, ("next", 3), [0, 2, 0])


class StartTest(StoryTest):
    def test_places_that_there_are_not(self):
        self.tells([(0, "miss", 7)], 8, 0, 4, ("next", 3), [7])
        self.tells([(0, "miss", 6), (0, "start", 7)], 8, 0, 4, ("next", 3), [6])
        self.tells([(0, "miss", 1), (1, "miss", 0)], 8, 0, 4, STRIDE, [1, 0])
        self.tells([(0, "miss", 2), (1, "miss", 1), (1, "start", 0)], 8, 0, 4, STRIDE, [2, 1])
        self.tells([(0, "miss", 3), (1, "miss", 1)], 8, 0, 4, STRIDE, [3, 1])
        self.tells([(0, "miss", 2), (1, "miss", 5)], 8, 0, 4, STRIDE, [2, 5])
        self.tells([(0, "miss", 1), (1, "miss", 4), (1, "start", 7)], 8, 0, 4, STRIDE, [1, 4])

    def test_a_memory_of_one_place_and_of_32(self):
        self.assertEqual(story(((5,), 8, 0, 4), ("next", 3), reads(0, 0)), [(0, "miss", 0), (1, "hit", 0)])
        self.assertEqual(story(((5,) * 32, 8, 0, 4), ("next", 3), reads(29)),
                         [(0, "miss", 29), (0, "start", 30), (0, "start", 31)])

    def test_a_place_that_there_is_not_takes_no_room_on_the_way(self):
        self.tells([
            (0, "miss", 7), (1, "miss", 1), (1, "start", 2),
        ], 8, 0, 1, ("both", STRIDE, NEXT), [7, 1])

    def test_places_that_lie_on_the_shelf(self):
        self.tells([
            (0, "miss", 1), (1, "miss", 0), (2, "hit", 1), (2, "start", 2),
        ], 8, 0, 1, ("both", ("pairs", 1), STRIDE), [1, 0, 1])
        self.tells([
            (0, "miss", 3), (0, "start", 4), (0, "start", 5),
            (1, "come", 4), (1, "come", 5), (1, "first", 4), (1, "start", 6), (1, "start", 7),
        ], 8, 0, 2, ("next", 3), [3, 4])

    def test_the_place_itself_lies_on_the_shelf(self):
        self.tells([(0, "miss", 3), (1, "hit", 3), (2, "hit", 3)], 8, 0, 1, ("pairs", 1), [3, 3, 3])

    def test_places_that_are_on_the_way(self):
        self.tells([
            (0, "miss", 3), (0, "start", 4), (1, "hit", 3), (2, "hit", 3), (3, "hit", 3),
        ], 8, 4, 4, NEXT, [3, 3, 3, 3])
        self.tells([
            (0, "miss", 3), (0, "start", 4), (0, "start", 5),
            (1, "miss", 2), (2, "hit", 3), (3, "late", 4), (3, "start", 6),
        ], 8, 4, 2, ("next", 2), [3, 2, 3, 4])

    def test_more_than_may_be_on_the_way(self):
        guesser = ("both", ("next", 3), ("both", STRIDE, ("pairs", 1)))
        wanted = [11, 12, 13, 18]
        for most in (1, 2, 3, 4):
            told = story(((5,) * 32, 1, 0, most), guesser, reads(10, 2, 10))
            self.assertEqual([place for turn, word, place in told if (turn, word) == (2, "start")], wanted[:most])

    def test_what_was_let_go_is_not_started_later(self):
        self.tells([
            (0, "miss", 0), (0, "start", 1),
            (1, "come", 1), (1, "miss", 5), (1, "start", 6),
            (2, "come", 6), (2, "miss", 7), (3, "hit", 7),
        ], 8, 0, 1, ("next", 3), [0, 5, 7, 7])

    def test_what_was_late_leaves_room_on_the_way(self):
        self.tells([
            (0, "miss", 0), (0, "start", 1), (1, "late", 1), (1, "start", 2), (2, "late", 2), (2, "start", 3),
        ], 8, 4, 1, NEXT, [0, 1, 2])

    def test_what_came_leaves_room_on_the_way(self):
        self.tells([
            (0, "miss", 0), (0, "start", 1), (1, "miss", 4),
            (2, "come", 1), (2, "hit", 4), (2, "start", 5),
        ], 8, 1, 1, NEXT, [0, 4, 4])

    def test_the_guesser_is_told_places_that_are_hit_missed_and_late(self):
        self.tells([
            (0, "miss", 1), (1, "miss", 2), (1, "start", 3),
            (2, "late", 3), (2, "start", 4),
            (3, "late", 4), (3, "start", 5),
            (4, "hit", 4),
            (5, "come", 5), (5, "first", 5), (5, "start", 6),
        ], 8, 1, 1, STRIDE, [1, 2, 3, 4, 4, 5])


class WordsTest(StoryTest):
    def agrees(self, setting, guesser, row):
        self.assertEqual(story(setting, guesser, row), model.story_of(setting, guesser, row),
                         (setting, guesser, row))

    def test_all_short_rows_by_the_words_of_the_document(self):
        rows = [reads(*row) for length in range(5) for row in itertools.product(range(3), repeat=length)]
        for guesser in [("next", 2), ("stride", 1), ("pairs", 2), MIXED[2]]:
            for room, late, most in [(1, 0, 1), (2, 0, 2), (1, 1, 2), (2, 2, 1)]:
                for row in rows:
                    self.agrees(((7, 8, 9, 10), room, late, most), guesser, row)

    def test_each_setting_and_guesser_by_the_words_of_the_document(self):
        for guesser in SIMPLE + MIXED:
            for at, (room, late, most) in enumerate(itertools.product(range(1, 9), range(5), range(1, 5))):
                row = mixed_row(12, len(MEMORY), at % 7)
                self.agrees(setting(room, late, most), guesser, row)

    def test_long_rows_by_the_words_of_the_document(self):
        for at, guesser in enumerate(SIMPLE + MIXED):
            for many, room in [(5, 3), (32, 8)]:
                self.agrees((tuple(range(many)), room, at % 5, at % 4 + 1), guesser, mixed_row(100, many, at))


class KindsTest(unittest.TestCase):
    def test_a_list_of_tuples(self):
        told = story(setting(1, 0, 2), ("next", 2), reads(0, 1, 2))
        self.assertIs(type(told), list)
        for event in told:
            self.assertIs(type(event), tuple)
            self.assertEqual([type(part) for part in event], [int, str, int])


if __name__ == "__main__":
    unittest.main()

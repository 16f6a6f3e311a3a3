import unittest

from stridewell.errors import BadSetting
from tests.asking import RefusalTest, ask, takers
from tests.samples import MEMORY, reads

ROW = reads(0, 0)


def ask_right(name, setting):
    """Ask what a memory of one place can tell, too."""
    others = {"row": ROW} if name != "worst" else {"places": 1}
    return ask(name, setting=setting, **others)


class SettingTest(unittest.TestCase):
    def taken(self, setting):
        for name in takers("setting"):
            with self.subTest(name=name, setting=setting):
                ask_right(name, setting)

    def test_each_number_at_its_bounds_and_between(self):
        for room in range(1, 9):
            self.taken((MEMORY, room, 0, 1))
        for late in range(5):
            self.taken((MEMORY, 1, late, 1))
        for most in range(1, 5):
            self.taken((MEMORY, 1, 0, most))
        self.taken((MEMORY, 8, 4, 4))

    def test_a_memory_of_1_to_32_numbers(self):
        for many in range(1, 33):
            self.taken(((7,) * many, 1, 0, 1))

    def test_numbers_of_a_memory_from_0_to_99(self):
        self.taken(((0,), 1, 0, 1))
        self.taken(((99,), 1, 0, 1))
        self.taken((tuple(range(32)), 1, 0, 1))
        self.taken((tuple(range(68, 100)), 1, 0, 1))

    def test_more_room_than_places(self):
        self.taken(((5,), 8, 4, 4))

    def test_there_are_functions_that_take_one(self):
        self.assertEqual(takers("setting"), ["run", "story", "cost", "held", "worst"])


class BadSettingTest(RefusalTest):
    def no_setting(self, word, setting):
        for name in takers("setting"):
            self.ask_refused(BadSetting, word, name, setting=setting)

    def test_a_memory_of_no_number_or_too_many(self):
        self.no_setting("memory", ((), 1, 0, 1))
        self.no_setting("memory", ((7,) * 33, 1, 0, 1))
        self.no_setting("memory", ((7,) * 40, 1, 0, 1))

    def test_a_wrong_number_at_any_place_of_a_memory(self):
        for many in (1, 2, 8, 32):
            for at in range(many):
                for wrong in (-1, 100, -50, 1000):
                    memory = (50,) * at + (wrong,) + (50,) * (many - at - 1)
                    self.no_setting("memory", (memory, 1, 0, 1))

    def test_one_beyond_the_bounds_and_more(self):
        for room in (0, 9, -1, 10, 32):
            self.no_setting("room", (MEMORY, room, 0, 1))
        for late in (-1, 5, -2, 6, 99):
            self.no_setting("late", (MEMORY, 1, late, 1))
        for most in (0, 5, -1, 6, 8):
            self.no_setting("most", (MEMORY, 1, 0, most))

    def test_the_first_word_of_several_that_are_none(self):
        rights = (MEMORY, 1, 0, 1)
        words = ("memory", "room", "late", "most")
        for wrongs in [((), 0, -1, 0), ((100,), 9, 5, 5), ((-1,), 9, -1, 5)]:
            for chosen in range(1, 16):
                are_wrong = [chosen >> at & 1 for at in range(4)]
                setting = tuple(wrongs[at] if are_wrong[at] else rights[at] for at in range(4))
                self.no_setting(words[are_wrong.index(1)], setting)

    def test_a_part_fewer_or_more(self):
        self.no_setting("memory", ())
        self.no_setting("room", (MEMORY,))
        self.no_setting("late", (MEMORY, 1))
        self.no_setting("most", (MEMORY, 1, 0))
        self.no_setting("room", (MEMORY, 0, 0))
        self.no_setting("most", (MEMORY, 1, 0, 1, 1))


if __name__ == "__main__":
    unittest.main()

import unittest

from stridewell.errors import BadRow
from stridewell.running import run
from tests.asking import RefusalTest, ask, takers
from tests.samples import MEMORY, NONE, reads

LAST = len(MEMORY) - 1
NO_DEEDS = [
    (), ("read",), ("write",), ("read", 0, 1), ("write", 0), ("write", 0, 1, 2), ("read", 0, 1, 2),
    ("Read", 0), ("WRITE", 0, 1), ("", 0), ("", 0, 1), ("ask", 0), ("reads", 0), ("hit", 0, 1), ("read ", 0),
    ("read", -1), ("read", LAST + 1), ("read", LAST + 2), ("read", -LAST), ("read", 99),
    ("write", -1, 5), ("write", LAST + 1, 5), ("write", 99, 5),
    ("write", 0, -1), ("write", 0, 100), ("write", LAST, -1), ("write", LAST, 100), ("write", -1, -1),
]


class RowTest(unittest.TestCase):
    def taken(self, row):
        for name in takers("row"):
            with self.subTest(name=name, row=row):
                ask(name, row=row)

    def test_an_empty_row(self):
        self.taken([])

    def test_100_deeds(self):
        self.taken(reads(*[0] * 100))
        self.taken([("write", turn % 8, turn) for turn in range(100)])

    def test_each_place_and_numbers_from_0_to_99(self):
        for place in range(LAST + 1):
            self.taken([("read", place)])
            for number in (0, 1, 50, 98, 99):
                self.taken([("write", place, number)])

    def test_the_last_one_of_32_places(self):
        self.assertEqual(run((tuple(range(32)), 1, 0, 1), NONE, reads(31))[0], [31])

    def test_there_are_functions_that_take_one(self):
        self.assertEqual(takers("row"), ["run", "story", "cost", "held"])


class BadRowTest(RefusalTest):
    def no_row(self, number, row, **others):
        for name in takers("row"):
            self.ask_refused(BadRow, number, name, row=row, **others)

    def test_a_deed_that_is_none_at_any_number(self):
        for wrong in NO_DEEDS:
            for number in (0, 1, 5, 99):
                self.no_row(number, reads(*[0] * number) + [wrong])
                self.no_row(number, [("write", 1, 1)] * number + [wrong] + reads(0))

    def test_the_first_one_of_two(self):
        for wrong in NO_DEEDS:
            self.no_row(0, [wrong, ("read", -1)])
            self.no_row(2, reads(0, 1) + [wrong, ("write", 0, 3), ()])

    def test_more_than_100_deeds(self):
        for many in (101, 102, 150):
            self.no_row(100, reads(*[0] * many))

    def test_a_101st_deed_that_is_none(self):
        self.no_row(100, reads(*[0] * 100) + [()])

    def test_a_deed_that_is_none_ahead_of_a_101st(self):
        self.no_row(99, reads(*[0] * 99) + [("read", -1), ("read", 0)])
        self.no_row(0, [()] * 101)

    def test_a_place_just_beyond_the_last_one(self):
        for many in (1, 2, 31, 32):
            setting = ((3,) * many, 1, 0, 1)
            for name in takers("row"):
                ask(name, setting=setting, row=reads(many - 1))
                self.ask_refused(BadRow, 1, name, setting=setting, row=reads(many - 1, many))
                self.ask_refused(BadRow, 0, name, setting=setting, row=[("write", many, 0)])


if __name__ == "__main__":
    unittest.main()

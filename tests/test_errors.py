import unittest

from stridewell import errors
from stridewell.errors import BadAsk, BadGuesser, BadRow, BadSetting, BadText, WellError


class FamilyTest(unittest.TestCase):
    def test_any_refusal_is_a_value_error(self):
        self.assertEqual(WellError.__bases__, (ValueError,))

    def test_each_refusal_is_straight_under_the_one(self):
        for refusal in (BadSetting, BadGuesser, BadRow, BadAsk, BadText):
            with self.subTest(refusal=refusal):
                self.assertEqual(refusal.__bases__, (WellError,))

    def test_the_classes_are_defined_where_the_interface_lists_them(self):
        for name in ("WellError", "BadSetting", "BadGuesser", "BadRow", "BadAsk", "BadText"):
            with self.subTest(name=name):
                self.assertEqual(getattr(errors, name).__module__, "stridewell.errors")
                self.assertEqual(getattr(errors, name).__name__, name)


class ValueTest(unittest.TestCase):
    def test_a_setting_tells_its_word(self):
        for word in ("memory", "room", "late", "most"):
            self.assertEqual(BadSetting(word).word, word)

    def test_a_row_tells_its_number(self):
        for number in (0, 7, 100):
            self.assertEqual(BadRow(number).number, number)

    def test_a_text_tells_its_place(self):
        for place in (0, 3, 12):
            self.assertEqual(BadText(place).place, place)

    def test_each_object_has_its_own_value(self):
        first = BadRow(1)
        second = BadRow(2)
        self.assertEqual((first.number, second.number), (1, 2))

    def test_the_values_are_there_when_it_is_caught(self):
        with self.assertRaises(WellError) as caught:
            raise BadSetting("room")
        self.assertEqual(caught.exception.word, "room")
        with self.assertRaises(WellError) as caught:
            raise BadRow(0)
        self.assertEqual(caught.exception.number, 0)
        with self.assertRaises(WellError) as caught:
            raise BadText(0)
        self.assertEqual(caught.exception.place, 0)

    def test_the_others_are_raised_and_caught(self):
        for refusal in (BadGuesser, BadAsk):
            with self.subTest(refusal=refusal), self.assertRaises(WellError):
                raise refusal("why")


if __name__ == "__main__":
    unittest.main()

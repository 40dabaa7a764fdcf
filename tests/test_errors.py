"""Point 5: the errors."""

import unittest

from playsalike import errors
from samples import ODD_VALUES

PARTS = {
    "BadAround": "part", "BadBook": "part", "BadLine": "number", "BadLog": "at",
    "BadMachine": "part", "BadNumber": "part", "BadPiece": "part", "BadRule": "part",
    "BadTerm": "at", "BadText": "at", "NotLet": "why", "TooMany": "most",
}
PLAIN = """BadBench BadBoxes BadBytes BadClaims BadDeed BadDigits BadEdit BadGivings BadHouse
BadLetter BadLetters BadLot BadMove BadNames BadPieces BadPlace BadPlaces BadPlay BadQuestion
BadRow BadRules BadScribe BadSort BadStarts BadWord BadWords""".split()


class Errors(unittest.TestCase):
    def test_play_error_is_below_value_error(self):
        self.assertEqual(errors.PlayError.__bases__, (ValueError,))

    def test_each_one_is_directly_below_play_error(self):
        for word in list(PARTS) + PLAIN:
            self.assertEqual(getattr(errors, word).__bases__, (errors.PlayError,), word)

    def test_there_are_no_other_ones(self):
        found = [word for word, thing in vars(errors).items() if isinstance(thing, type)]
        self.assertEqual(sorted(found), sorted(list(PARTS) + PLAIN + ["PlayError"]))

    def test_those_with_an_attribute_keep_any_value(self):
        for word, attribute in PARTS.items():
            for thing in ODD_VALUES:
                made = getattr(errors, word)
                self.assertIs(getattr(made(thing), attribute), thing)
                self.assertIs(getattr(made(**{attribute: thing}), attribute), thing)

    def test_those_with_an_attribute_need_it(self):
        for word in PARTS:
            with self.assertRaises(TypeError):
                getattr(errors, word)()

    def test_the_others_are_made_of_a_message(self):
        for word in PLAIN:
            self.assertEqual(str(getattr(errors, word)("what is wrong")), "what is wrong")

    def test_all_are_caught_as_play_error(self):
        for word in PARTS:
            with self.assertRaises(errors.PlayError):
                raise getattr(errors, word)(None)


if __name__ == "__main__":
    unittest.main()

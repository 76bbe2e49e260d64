"""The interface, errors.py, and what [2] says of refusals."""

import unittest

from thinskin import errors

FIELDS = {"Barred": "word", "BadRow": "row"}
NAMES = ["Barred", "NoStep", "AtEnd", "NotClosed", "NotYet", "NoJoin", "BadRow", "NoSkin"]
WORDS = ["", "words", "two words", "two\nrows"]


def make(name, words):
    kind = getattr(errors, name)
    return kind(words, 7) if name in FIELDS else kind(words)


class Errors(unittest.TestCase):
    def test_skin_error_is_straight_under_value_error(self):
        self.assertEqual(errors.SkinError.__bases__, (ValueError,))
        self.assertEqual(str(errors.SkinError("words")), "words")

    def test_each_is_straight_under_skin_error(self):
        for name in NAMES:
            self.assertEqual(getattr(errors, name).__bases__, (errors.SkinError,), name)

    def test_each_is_none_of_the_others(self):
        for name in NAMES:
            made = make(name, "words")
            self.assertIsInstance(made, errors.SkinError)
            self.assertIsInstance(made, ValueError)
            kinds = [other for other in NAMES if isinstance(made, getattr(errors, other))]
            self.assertEqual(kinds, [name])

    def test_words_of_each(self):
        for name in NAMES:
            for words in WORDS:
                self.assertEqual(str(make(name, words)), words)

    def test_fields(self):
        for word in ["apart", "stays", "mark", "shape", "turn"]:
            self.assertEqual(errors.Barred("..", word).word, word)
        for row in [0, 7, 500]:
            self.assertEqual(errors.BadRow("..", row).row, row)

    def test_fields_are_each_objects_own(self):
        one = errors.Barred("..", "turn")
        errors.Barred("..", "mark")
        self.assertEqual(one.word, "turn")
        first = errors.BadRow("..", 1)
        errors.BadRow("..", 2)
        self.assertEqual(first.row, 1)

    def test_each_is_caught_by_its_name_and_as_the_ones_above(self):
        for name in NAMES:
            for caught in [getattr(errors, name), errors.SkinError, ValueError]:
                with self.assertRaises(caught):
                    raise make(name, "words")


if __name__ == "__main__":
    unittest.main()

"""Promise [2]: what the refusals stand under; the interface's part on errors.py."""

import unittest

from gainroads import errors

WITH_WORDS = ("BadNumber", "Taken", "NoPlace", "NoTie", "AsItIs", "NoEnds", "Over", "TooMuch")
WITH_FIELD = (
    ("Gaining", "ties", [0, 1]), ("NotSoMuch", "most", (3, 2)), ("Short", "share", (1, 2)),
    ("Lacking", "place", "mill"), ("BadRow", "row", 0), ("BadSheet", "row", 4),
)
ALL = WITH_WORDS + tuple(name for name, field, value in WITH_FIELD)


class Errors(unittest.TestCase):

    def test_gain_error_stands_under_value_error(self):
        self.assertEqual(errors.GainError.__bases__, (ValueError,))

    def test_each_stands_straight_under_gain_error(self):
        self.assertEqual(len(ALL), 14)
        for name in ALL:
            self.assertEqual(getattr(errors, name).__bases__, (errors.GainError,), name)

    def test_none_stands_under_another(self):
        for name in ALL:
            for other in ALL:
                if name != other:
                    self.assertFalse(issubclass(getattr(errors, name), getattr(errors, other)), (name, other))

    def test_made_with_words(self):
        for name in WITH_WORDS:
            with self.assertRaises(ValueError) as caught:
                raise getattr(errors, name)("some words")
            self.assertIs(type(caught.exception), getattr(errors, name))
            self.assertIn("some words", str(caught.exception))

    def test_made_with_a_field(self):
        for name, field, value in WITH_FIELD:
            with self.assertRaises(errors.GainError) as caught:
                raise getattr(errors, name)(value)
            self.assertIs(type(caught.exception), getattr(errors, name))
            self.assertEqual(getattr(caught.exception, field), value)

    def test_a_field_may_be_nought(self):
        self.assertEqual(errors.NotSoMuch((0, 1)).most, (0, 1))
        self.assertEqual(errors.Short((0, 1)).share, (0, 1))
        self.assertEqual(errors.BadSheet(0).row, 0)

    def test_a_field_keeps_nothing_that_was_handed_in(self):
        ties = [0, 1]
        refusal = errors.Gaining(ties)
        ties.append(2)
        self.assertEqual(refusal.ties, [0, 1])
        refusal.ties.clear()
        self.assertEqual(ties, [0, 1, 2])


if __name__ == "__main__":
    unittest.main()

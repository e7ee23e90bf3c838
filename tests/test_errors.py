"""Point 5: the classes of the refusals."""

import unittest

from tenturns import errors
from tenturns.errors import ClubError, NotDone

WITH_TEXT = [
    "NoLesson", "NoBook", "NoParty", "NoPerson", "NoDay", "NoHour", "NoCard", "NoCards", "NoComings", "NoNumber",
    "Gone", "Off", "There", "TooMany", "NoDeed", "NoText",
]


class TestErrors(unittest.TestCase):
    def test_each_stands_straight_under_club_error(self):
        for name in [*WITH_TEXT, "NotDone"]:
            made = getattr(errors, name)
            self.assertEqual(made.__bases__, (ClubError,), name)
            self.assertEqual(made.__name__, name)
            self.assertEqual(made.__module__, "tenturns.errors")

    def test_club_error_stands_straight_under_value_error(self):
        self.assertEqual(ClubError.__bases__, (ValueError,))

    def test_none_stands_under_another_one(self):
        classes = [getattr(errors, name) for name in [*WITH_TEXT, "NotDone"]]
        for one in classes:
            self.assertEqual([other for other in classes if issubclass(one, other)], [one])

    def test_made_with_a_text(self):
        for name in [*WITH_TEXT, "ClubError"]:
            made = getattr(errors, name)("why it is so")
            self.assertEqual(str(made), "why it is so")
            self.assertIsInstance(made, ValueError)

    def test_not_done_is_made_with_a_place(self):
        for at in (0, 1, 23):
            self.assertEqual(NotDone(at).at, at)
            self.assertEqual(NotDone(at=at).at, at)
        with self.assertRaises(ClubError) as caught:
            raise NotDone(7)
        self.assertEqual(caught.exception.at, 7)

    def test_they_can_be_raised_and_caught(self):
        for name in WITH_TEXT:
            with self.assertRaises(ValueError) as caught:
                raise getattr(errors, name)("no")
            self.assertIs(type(caught.exception), getattr(errors, name))


if __name__ == "__main__":
    unittest.main()

"""Point 5: what is no lesson, no book, no hour, no cards, no comings, no day; the one further to the left first."""

import unittest
from copy import deepcopy

from helper import STRANGE, every_choice
from tenturns.cards import first_short, is_taking, lost, paper_of, room_on, shown_by, taken_by_rule
from tenturns.errors import ClubError, NoBook, NoCards, NoComings, NoDay, NoHour, NoLesson
from tenturns.rows import at_last, diary_of, entries, first_wrong, is_diary, standing_by

BIG = 10 ** 19 + 7

LESSON = (7, 2, 30)
BOOK = ((3, "wish", (1,)), (8, "leave", 1))
CANNOT = ((3, "wish", (1,)), (8, "leave", 2), (9, "leave", 1))
CARDS = ((0, 5, 2), (3, 9, 1))
COMINGS = (1, 4, 4, 7)

NO_LESSONS = [(60, 2, 30), (7, 0, 30), (7, 7, 30), (7, 2, 101), (7, 2, -1), (7, True, 30), [7, 2, 30], (7, 2), BIG]
NO_BOOKS = [[], list(BOOK), BOOK[::-1], (BOOK[0], BOOK[0]), ((100, "leave", 1),), (3, "leave", 1),
            tuple([(hour, "wish", (0,)) for hour in range(25)]), BOOK + (None,), "book", {}]
NO_HOURS = [-1, 100, True, False, None, "3", [], (3,), {}, BIG, -BIG]
NO_CARDS = [((5, 0, 2),), ((0, 5, 11),), ((0, 5, 0),), ((0, 5, 1),) * 9, [(0, 5, 2)], (0, 5, 2), CARDS + (None,), "cards"]
NO_COMINGS = [(4, 1), (60,), (-1,), (1, True), [1, 4], (1,) * 25, (1, None), "14", 4, (BIG,)]
NO_DAYS = [-1, 60, True, False, None, "3", [], (3,), {}, BIG, -BIG]

OF_ROWS = [first_wrong, standing_by, entries, at_last, diary_of, is_diary]
OF_CARDS = [is_taking, taken_by_rule, lost, shown_by, paper_of, room_on, first_short]


def rest(told):
    """A last argument that is never refused, for the functions that need one."""
    return {is_diary: [[]], is_taking: [()], shown_by: [()], room_on: [4]}.get(told, [])


class RefusalTest(unittest.TestCase):
    def refuses(self, error, told, *handed):
        before = deepcopy(handed)
        with self.assertRaises(ClubError) as caught:
            told(*handed)
        self.assertIs(type(caught.exception), error, (told, handed))
        self.assertEqual(repr(handed), repr(before))


class TestOfRows(RefusalTest):
    def test_no_lesson(self):
        for told in OF_ROWS:
            for bad in [*NO_LESSONS, *STRANGE]:
                self.refuses(NoLesson, told, bad, BOOK, *rest(told))

    def test_no_book(self):
        for told in OF_ROWS:
            for bad in [*NO_BOOKS, *STRANGE]:
                if repr(bad) != "()":
                    self.refuses(NoBook, told, LESSON, bad, *rest(told))

    def test_a_book_with_a_deed_that_cannot_be_done(self):
        for told in OF_ROWS[1:]:
            self.refuses(NoBook, told, LESSON, CANNOT, *rest(told))
            self.refuses(NoBook, told, LESSON, ((99, "leave", 1),), *rest(told))
        self.assertEqual(first_wrong(LESSON, CANNOT), 1)
        self.assertEqual(first_wrong(LESSON, ((99, "leave", 1),)), 0)

    def test_also_where_the_hour_is_ahead_of_that_deed(self):
        for hour in (0, 3, 7, 8, 9, 99):
            self.refuses(NoBook, standing_by, LESSON, CANNOT, hour)

    def test_no_hour(self):
        for bad in [*NO_HOURS, (), {0: 1}]:
            self.refuses(NoHour, standing_by, LESSON, BOOK, bad)
            self.refuses(NoHour, standing_by, LESSON, (), bad)

    def test_the_one_further_to_the_left_first(self):
        for no_lesson in NO_LESSONS:
            for no_book in [*NO_BOOKS, CANNOT]:
                for told in OF_ROWS:
                    self.refuses(NoLesson, told, no_lesson, no_book, *rest(told))
                for no_hour in NO_HOURS:
                    self.left_first([LESSON, BOOK, 5], [no_lesson, no_book, no_hour], [NoLesson, NoBook, NoHour])

    def left_first(self, good, bad, errors):
        for handed, first in every_choice(good, bad):
            if first is None:
                self.assertEqual(standing_by(*handed), ((1,), (), ()))
            else:
                self.refuses(errors[first], standing_by, *handed)

    def test_the_last_argument_of_is_diary_is_never_refused(self):
        self.refuses(NoLesson, is_diary, None, CANNOT, None)
        self.refuses(NoBook, is_diary, LESSON, CANNOT, None)
        self.assertIs(is_diary(LESSON, BOOK, None), False)


class TestOfCards(RefusalTest):
    def test_no_cards(self):
        for told in OF_CARDS:
            for bad in [*NO_CARDS, *STRANGE]:
                if repr(bad) != "()":
                    self.refuses(NoCards, told, bad, COMINGS, *rest(told))

    def test_no_comings(self):
        for told in OF_CARDS:
            for bad in [*NO_COMINGS, *STRANGE]:
                if repr(bad) not in ("()", "(0,)", "(1,)"):
                    self.refuses(NoComings, told, CARDS, bad, *rest(told))

    def test_no_day(self):
        for bad in [*NO_DAYS, (), {0: 1}]:
            self.refuses(NoDay, room_on, CARDS, COMINGS, bad)
            self.refuses(NoDay, room_on, (), (), bad)

    def test_the_one_further_to_the_left_first(self):
        for no_cards in NO_CARDS:
            for no_comings in NO_COMINGS:
                for told in OF_CARDS:
                    self.refuses(NoCards, told, no_cards, no_comings, *rest(told))
                for no_day in NO_DAYS:
                    self.left_first([CARDS, COMINGS, 4], [no_cards, no_comings, no_day])

    def left_first(self, good, bad):
        for handed, first in every_choice(good, bad):
            if first is None:
                self.assertEqual(room_on(*handed), 0)
            else:
                self.refuses([NoCards, NoComings, NoDay][first], room_on, *handed)

    def test_the_last_argument_of_these_is_never_refused(self):
        for told, want in [(is_taking, False), (shown_by, None)]:
            self.refuses(NoCards, told, None, None, None)
            self.refuses(NoComings, told, CARDS, None, None)
            self.assertIs(told(CARDS, COMINGS, None), want)


if __name__ == "__main__":
    unittest.main()

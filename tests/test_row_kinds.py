"""Points 2, 3 and 11: what is a lesson, a party, a deed, a book."""

import unittest
from copy import deepcopy

from helper import STRANGE, nested
from tenturns.rows import is_book, is_deed, is_lesson, is_party

BIG = 10 ** 19 + 7
NUMBERLESS = [True, False, None, "0", "1", [], [0], (), (0,), {}, {0: 0}, BIG, -BIG]


class KindTest(unittest.TestCase):
    def tells(self, told, thing, want):
        before = deepcopy(thing)
        self.assertIs(told(thing), want, repr(thing)[:80])
        self.assertEqual(repr(thing), repr(before))

    def bounds(self, told, good, at, least, most):
        """Every number from least to most may stand at a place, and nothing else."""
        for number in range(least, most + 1):
            self.tells(told, good[:at] + (number,) + good[at + 1:], True)
        for other in [least - 1, most + 1, *NUMBERLESS]:
            self.tells(told, good[:at] + (other,) + good[at + 1:], False)


class TestLesson(KindTest):
    def test_bounds_of_each_part(self):
        self.bounds(is_lesson, (5, 3, 24), 0, 0, 59)
        self.bounds(is_lesson, (5, 3, 24), 1, 1, 6)
        self.bounds(is_lesson, (5, 3, 24), 2, 0, 100)

    def test_other_shapes(self):
        for thing in [(), (5,), (5, 3), (5, 3, 24, 0), [5, 3, 24], "5 3 24", {5: 1, 3: 1, 24: 1}, ((5, 3, 24),)]:
            self.tells(is_lesson, thing, False)

    def test_strange_things(self):
        for thing in STRANGE:
            self.tells(is_lesson, thing, False)


class TestParty(KindTest):
    def test_one_to_three_persons(self):
        for thing in [(0,), (9,), (0, 9), (3, 4), (0, 1, 2), (7, 8, 9), (0, 5, 9)]:
            self.tells(is_party, thing, True)
        for thing in [(), (0, 1, 2, 3), (0, 1, 2, 3, 4), tuple(range(10))]:
            self.tells(is_party, thing, False)

    def test_bounds_of_a_person(self):
        self.bounds(is_party, (4,), 0, 0, 9)
        self.tells(is_party, (8, 10), False)
        self.tells(is_party, (-1, 3), False)

    def test_it_must_rise(self):
        for thing in [(1, 0), (1, 1), (0, 0, 1), (0, 2, 1), (2, 1, 0), (0, 1, 1), (0, 3, 3)]:
            self.tells(is_party, thing, False)

    def test_truths_are_no_persons(self):
        for thing in [(True,), (False,), (0, True), (False, 1), (False, True), (True, 2, 3)]:
            self.tells(is_party, thing, False)

    def test_strange_things(self):
        for thing in STRANGE:
            self.tells(is_party, thing, repr(thing) == "(0,)")
        for thing in [[1, 2], {1: 2}, "12", ("1", "2"), (1, "2"), (1, None), (None, 1), (1, [2]), ((1,), (2,)), 5]:
            self.tells(is_party, thing, False)


class TestDeed(KindTest):
    def test_deeds(self):
        for thing in [(0, "leave", 0), (99, "leave", 9), (0, "wish", (0,)), (99, "wish", (7, 8, 9))]:
            self.tells(is_deed, thing, True)

    def test_bounds_of_the_hour(self):
        self.bounds(is_deed, (5, "leave", 3), 0, 0, 99)
        self.bounds(is_deed, (5, "wish", (3,)), 0, 0, 99)

    def test_bounds_of_the_person(self):
        self.bounds(is_deed, (5, "leave", 3), 2, 0, 9)

    def test_a_wish_takes_a_party_and_a_leave_a_person(self):
        for who in [3, (), (1, 1), (2, 1), (0, 1, 2, 3), (10,), (True,), [1], "1", None]:
            self.tells(is_deed, (5, "wish", who), False)
        for who in [(3,), (1, 2), [3], "3", True, None]:
            self.tells(is_deed, (5, "leave", who), False)

    def test_the_word(self):
        for word in ["", "Leave", "leave ", "wishes", "off", 0, None, True, [], ["leave"], ("leave",), {}]:
            self.tells(is_deed, (5, word, 3), False)
            self.tells(is_deed, (5, word, (3,)), False)

    def test_other_shapes(self):
        for thing in [(), (5,), (5, "leave"), (5, "leave", 3, 0), [5, "leave", 3], ("leave", 5, 3), ((5, "leave", 3),)]:
            self.tells(is_deed, thing, False)

    def test_strange_things(self):
        for thing in STRANGE:
            self.tells(is_deed, thing, False)


class TestBook(KindTest):
    def test_the_empty_book(self):
        self.tells(is_book, (), True)
        self.tells(is_book, [], False)

    def test_24_deeds_and_25(self):
        deeds = tuple([(hour, "wish", (0,)) for hour in range(25)])
        self.tells(is_book, deeds[:23], True)
        self.tells(is_book, deeds[:24], True)
        self.tells(is_book, deeds, False)
        self.tells(is_book, list(deeds[:3]), False)

    def test_it_must_rise(self):
        for ahead, behind in [
            ((1, "wish", (1,)), (2, "leave", 0)),
            ((1, "leave", 9), (1, "wish", (0,))),
            ((1, "leave", 3), (1, "leave", 4)),
            ((1, "wish", (1,)), (1, "wish", (1, 2))),
            ((1, "wish", (1, 9)), (1, "wish", (2,))),
        ]:
            self.tells(is_book, (ahead, behind), True)
            self.tells(is_book, (behind, ahead), False)
            self.tells(is_book, (ahead, ahead), False)
            self.tells(is_book, ((0, "wish", (1,)), behind, ahead), False)

    def test_a_deed_that_is_none(self):
        good = (5, "leave", 3)
        for bad in [*STRANGE, (5, "leave", 10), (100, "leave", 3), (5, "wish", (2, 1)), [6, "leave", 3]]:
            self.tells(is_book, (bad,), False)
            self.tells(is_book, (good, bad), False)
            self.tells(is_book, (bad, good), False)

    def test_whether_the_deeds_can_be_done_does_not_count(self):
        self.tells(is_book, ((5, "leave", 3), (6, "leave", 3)), True)

    def test_strange_things(self):
        for thing in STRANGE:
            self.tells(is_book, thing, repr(thing) == "()")
        self.tells(is_book, ((5, "leave", 3), nested(8)), False)
        self.tells(is_book, "leave", False)
        self.tells(is_book, {(5, "leave", 3): 1}, False)
        self.tells(is_book, ((5, "leave", 3), (6, None, 3), 7, "x"), False)


if __name__ == "__main__":
    unittest.main()

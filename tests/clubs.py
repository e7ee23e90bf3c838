"""Clubs that several tests ask, all that a club tells, and what they do with refusals."""

import unittest

from tenturns.club import Club
from tenturns.errors import ClubError


def told_by(club):
    """All that a club tells."""
    standings = [club.standing(number, hour) for number in range(len(club)) for hour in (0, 3, 50, 99)]
    persons = [(club.comings(person), club.taken(person), club.lost(person)) for person in range(10)]
    return standings, persons, club.losers(), len(club), repr(club), str(club)


def some_club():
    """Two lessons, the second one called off, and some cards."""
    club = Club()
    club.lesson(7, 2, 30)
    club.wish(0, (1,), 3)
    club.wish(0, (2, 3), 5)
    club.lesson(3)
    club.wish(1, (1, 9), 7)
    club.leave(0, 1, 8)
    club.card(2, 0, 9)
    club.card(2, 0, 9, 1)
    club.call_off(1)
    return club


def full_club():
    """Eight lessons, of which the first has a book of 24 deeds, and eight cards of person 3."""
    club = Club()
    for day in range(8):
        club.lesson(day, 3, 50)
    for at in range(12):
        club.wish(0, (at % 10,), 2 * at)
        club.leave(0, at % 10, 2 * at + 1)
    for at in range(8):
        club.card(3, at, at + 9)
    return club


class ClubTest(unittest.TestCase):
    def refuses(self, error, told, *handed):
        with self.assertRaises(ClubError) as caught:
            told(*handed)
        self.assertIs(type(caught.exception), error, handed)
        return caught.exception

    def refuses_and_keeps(self, club, error, told, *handed):
        before = told_by(club)
        refused = self.refuses(error, told, *handed)
        self.assertEqual(told_by(club), before)
        return refused

"""Point 31: what a club's deeds are refused with, and in which order."""

import unittest

from clubs import ClubTest, full_club, some_club
from helper import STRANGE, every_choice
from tenturns.club import Club
from tenturns.errors import NoCard, NoHour, NoLesson, NoParty, NoPerson, NotDone, Off, There, TooMany

BIG = 10 ** 20 - 1
NO_NUMBERS = [True, False, None, -1, 2, 8, "0", "", [], [0], (0,), (), {}, {0: 0}, BIG, -BIG]
NO_PERSONS = [True, False, None, -1, 10, "0", [], (1,), {}, BIG, -BIG]
NO_HOURS = [True, False, None, -1, 100, "0", [], (1,), {}, BIG, -BIG]
NO_PARTIES = [(), (1, 1), (2, 1), (0, 1, 2, 3), (10,), (-1,), (True,), (0, True), [1], [], 1, None, "1", ("1",), {},
              {1: 1}, ((1,),), (1, None), (BIG,)]
NO_LESSONS = [(-1, 4, 24), (60, 4, 24), (0, 0, 24), (0, 7, 24), (0, 4, -1), (0, 4, 101), (True, 4, 24), (0, True, 24),
              (0, 4, True), (False, 4, 24), (0, 4, False), (None, 4, 24), (0, None, 24), (0, 4, None), ("0", 4, 24),
              (0, [], 24), (0, 4, {}), (BIG, 4, 24), (0, BIG, 24), (0, 4, -BIG), (0, 4, ())]
NO_CARDS = [(5, 4, 1), (-1, 4, 1), (0, 60, 1), (0, 4, 0), (0, 4, 11), (True, 4, 1), (0, True, 1), (0, 4, True),
            (None, 4, 1), (0, "4", 1), (0, 4, []), (BIG, 4, 1), (0, BIG, 1), (0, 4, BIG)]


class TestHandedIn(ClubTest):
    def test_no_lesson_by_these(self):
        for club in [Club(), some_club(), full_club()]:
            for lesson in NO_LESSONS:
                self.refuses_and_keeps(club, NoLesson, club.lesson, *lesson)

    def test_no_lesson_of_whatever_kind(self):
        club = some_club()
        for thing in STRANGE:
            if not (type(thing) is int and 0 <= thing <= 59):
                self.refuses(NoLesson, club.lesson, thing)
            if not (type(thing) is int and 1 <= thing <= 6):
                self.refuses(NoLesson, club.lesson, 0, thing)
            if not (type(thing) is int and 0 <= thing <= 100):
                self.refuses(NoLesson, club.lesson, 0, 4, thing)

    def test_no_card(self):
        for club in [Club(), some_club(), full_club()]:
            for card in NO_CARDS:
                self.refuses_and_keeps(club, NoCard, club.card, 3, *card)

    def test_the_person_is_looked_at_ahead_of_the_card(self):
        for club in [Club(), some_club(), full_club()]:
            for person in NO_PERSONS:
                self.refuses_and_keeps(club, NoPerson, club.card, person, 0, 9)
                for card in NO_CARDS:
                    self.refuses(NoPerson, club.card, person, *card)

    def test_no_number_of_a_lesson(self):
        club = some_club()
        for number in NO_NUMBERS:
            for told, *handed in [(club.wish, (4,)), (club.leave, 2), (club.call_off,), (club.standing,)]:
                self.refuses_and_keeps(club, NoLesson, told, number, *handed)
                self.refuses(NoLesson, told, number, *handed, *([] if told == club.call_off else [5]))

    def test_a_number_not_yet_given(self):
        club = Club()
        self.refuses(NoLesson, club.wish, 0, (1,))
        club.lesson(3)
        club.wish(0, (1,))
        self.refuses(NoLesson, club.call_off, 1)
        club.lesson(3)
        club.call_off(1)
        club.undo()
        club.undo()
        self.refuses(NoLesson, club.call_off, 1)

    def test_of_whatever_kind(self):
        club = some_club()
        for thing in STRANGE:
            if not (type(thing) is int and 0 <= thing <= 1):
                self.refuses(NoLesson, club.wish, thing, (4,), 5)
                self.refuses(NoLesson, club.leave, thing, 2, 5)
                self.refuses(NoLesson, club.call_off, thing)
            if repr(thing) != "(0,)":
                self.refuses(NoParty, club.wish, 1, thing, 5)
            if not (type(thing) is int and 0 <= thing <= 9):
                self.refuses(NoPerson, club.leave, 1, thing, 5)
                self.refuses(NoPerson, club.card, thing, 0, 9)
            if not (type(thing) is int and 0 <= thing <= 99):
                self.refuses(NoHour, club.wish, 1, (4,), thing)
                self.refuses(NoHour, club.leave, 1, 2, thing)

    def test_what_stands_further_to_the_left_first(self):
        club = some_club()
        for number in NO_NUMBERS:
            for party in NO_PARTIES:
                for hour in NO_HOURS[:5]:
                    self.left_first(club.wish, [0, (4,), 9], [number, party, hour], [NoLesson, NoParty, NoHour])
            for person in NO_PERSONS:
                for hour in NO_HOURS:
                    self.left_first(club.leave, [0, 2, 9], [number, person, hour], [NoLesson, NoPerson, NoHour])

    def left_first(self, told, good, bad, errors):
        for handed, first in every_choice(good, bad):
            if first is not None:
                self.refuses(errors[first], told, *handed)

    def test_ahead_of_what_stands_already(self):
        club = some_club()
        for number, error in [(1, Off), (0, NotDone)]:
            self.refuses(error, club.wish, number, (2,), 7)
            self.refuses(error, club.leave, number, 9, 7)
            for party in NO_PARTIES:
                self.refuses(NoParty, club.wish, number, party, 7)
            for person in NO_PERSONS:
                self.refuses(NoPerson, club.leave, number, person, 7)
            for hour in NO_HOURS:
                self.refuses(NoHour, club.wish, number, (2,), hour)
                self.refuses(NoHour, club.leave, number, 9, hour)

    def test_ahead_of_too_many(self):
        club = full_club()
        self.refuses(NoLesson, club.lesson, 60)
        self.refuses(NoLesson, club.lesson, 0, 0)
        self.refuses(NoPerson, club.card, 10, 0, 9)
        self.refuses(NoCard, club.card, 3, 9, 0)
        self.refuses(NoParty, club.wish, 0, ())
        self.refuses(NoHour, club.wish, 0, (1,), 100)


class TestWhatStands(ClubTest):
    def test_a_ninth_lesson(self):
        club = full_club()
        self.refuses_and_keeps(club, TooMany, club.lesson, 5)
        club.call_off(7)
        self.refuses_and_keeps(club, TooMany, club.lesson, 5, 2, 30)

    def test_a_ninth_card_of_a_person(self):
        club = full_club()
        self.refuses_and_keeps(club, TooMany, club.card, 3, 0, 9)
        self.assertEqual(club.card(2, 0, 9), 1)
        club.undo()
        club.undo()
        self.assertEqual(club.card(3, 0, 9), 8)

    def test_off(self):
        club = some_club()
        for hour in (0, 7, 99):
            self.refuses_and_keeps(club, Off, club.wish, 1, (4,), hour)
            self.refuses_and_keeps(club, Off, club.leave, 1, 1, hour)
        self.refuses_and_keeps(club, Off, club.call_off, 1)
        club.undo()
        club.wish(1, (4,), 7)
        self.refuses(There, club.wish, 1, (4,), 7)

    def test_off_ahead_of_there_too_many_and_not_done(self):
        club = full_club()
        club.wish(1, (5,), 8)
        club.call_off(1)
        self.refuses_and_keeps(club, Off, club.wish, 1, (5,), 8)
        self.refuses_and_keeps(club, Off, club.leave, 1, 9, 8)
        club.call_off(0)
        self.refuses_and_keeps(club, Off, club.wish, 0, (0,), 0)
        self.refuses_and_keeps(club, Off, club.wish, 0, (0,), 99)
        self.refuses_and_keeps(club, Off, club.leave, 0, 0, 99)

    def test_there(self):
        club = Club()
        club.lesson(3)
        club.lesson(3)
        club.wish(0, (1, 2), 5)
        club.leave(0, 1, 6)
        self.refuses_and_keeps(club, There, club.wish, 0, (1, 2), 5)
        self.refuses_and_keeps(club, There, club.leave, 0, 1, 6)
        club.wish(1, (1, 2), 5)
        club.wish(0, (1,), 7)
        club.leave(0, 1, 8)

    def test_there_ahead_of_too_many_and_not_done(self):
        club = full_club()
        self.refuses_and_keeps(club, There, club.wish, 0, (0,), 0)
        self.refuses_and_keeps(club, There, club.leave, 0, 1, 23)
        self.refuses_and_keeps(club, TooMany, club.wish, 0, (0,), 1)
        club = Club()
        club.lesson(3)
        club.wish(0, (1,), 5)
        self.refuses(There, club.wish, 0, (1,), 5)

    def test_a_book_of_24(self):
        club = full_club()
        self.assertEqual(str(club).count("wish") + str(club).count("leave"), 24)
        self.refuses_and_keeps(club, TooMany, club.wish, 0, (9,), 99)
        self.refuses_and_keeps(club, TooMany, club.wish, 0, (9,), 0)
        club.wish(1, (9,), 99)

    def test_too_many_ahead_of_not_done(self):
        club = full_club()
        self.refuses_and_keeps(club, TooMany, club.leave, 0, 9, 99)
        self.refuses_and_keeps(club, TooMany, club.leave, 0, 9, 0)


class TestNotDone(ClubTest):
    def at(self, club, told, *handed):
        refused = self.refuses_and_keeps(club, NotDone, told, *handed)
        self.assertIs(type(refused.at), int)
        return refused.at

    def test_the_deed_itself_cannot_be_done(self):
        club = Club()
        club.lesson(3)
        self.assertEqual(self.at(club, club.leave, 0, 1, 50), 0)
        club.wish(0, (1,), 5)
        self.assertEqual(self.at(club, club.wish, 0, (1, 2), 9), 1)
        self.assertEqual(self.at(club, club.leave, 0, 1, 4), 0)
        self.assertEqual(self.at(club, club.leave, 0, 1, 5), 0)
        self.assertEqual(self.at(club, club.leave, 0, 2, 6), 1)

    def test_a_deed_told_late_makes_a_later_one_impossible(self):
        club = Club()
        club.lesson(3)
        club.wish(0, (1,), 10)
        club.leave(0, 1, 20)
        club.wish(0, (2,), 30)
        self.assertEqual(self.at(club, club.wish, 0, (1, 2), 0), 1)
        self.assertEqual(self.at(club, club.wish, 0, (2, 3), 15), 3)
        self.assertEqual(self.at(club, club.leave, 0, 1, 15), 2)
        self.assertEqual(self.at(club, club.wish, 0, (1,), 15), 1)

    def test_the_first_of_several(self):
        club = Club()
        club.lesson(3, 2, 0)
        club.wish(0, (1,), 10)
        club.wish(0, (2,), 20)
        club.leave(0, 1, 30)
        club.leave(0, 2, 40)
        self.assertEqual(self.at(club, club.wish, 0, (1, 2), 9), 1)
        self.assertEqual(self.at(club, club.leave, 0, 1, 20), 3)
        self.assertEqual(self.at(club, club.leave, 0, 2, 31), 4)

    def test_one_that_waited_and_left_in_between(self):
        club = Club()
        club.lesson(3, 1, 0)
        club.wish(0, (1,), 10)
        club.wish(0, (2, 3), 20)
        club.leave(0, 3, 40)
        self.assertEqual(self.at(club, club.leave, 0, 2, 30), 3)
        self.assertEqual(self.at(club, club.leave, 0, 2, 50), 3)

    def test_places_beyond_the_first(self):
        club = Club()
        club.lesson(0, 6)
        for hour in range(10):
            club.wish(0, (hour,), hour)
        for place in range(10):
            self.assertEqual(self.at(club, club.wish, 0, (place,), 99), 10)
            self.assertEqual(self.at(club, club.leave, 0, place, 0), 0)

    def test_the_lost_do_not_leave_or_wish_again(self):
        club = Club()
        club.lesson(3, 2, 50)
        club.wish(0, (1,), 10)
        club.leave(0, 1, 51)
        self.assertEqual(self.at(club, club.leave, 0, 1, 52), 2)
        self.assertEqual(self.at(club, club.wish, 0, (1,), 52), 2)
        self.assertEqual(self.at(club, club.leave, 0, 1, 50), 2)

if __name__ == "__main__":
    unittest.main()

"""Points 32 and 33: what a club tells of lessons and persons; `len`, `==`, `repr`, `str` of it; its twin."""

import unittest

from clubs import ClubTest, full_club, some_club, told_by
from helper import STRANGE
from tenturns.club import Club
from tenturns.errors import ClubError, NoDeed, NoHour, NoLesson, NoPerson
from tenturns.lines import club_text
from tenturns.purse import Purse

NO_PERSONS = [True, False, None, -1, 10, "0", [], (1,), {}, 10 ** 20 - 1]


def club_of(*deeds):
    club = Club()
    for word, *handed in deeds:
        getattr(club, word)(*handed)
    return club


class TestStanding(ClubTest):
    def test_by_an_hour(self):
        club = some_club()
        for hour, want in [
            (0, ((), (), ())), (2, ((), (), ())), (3, ((1,), (), ())), (5, ((1,), ((2, 3),), ())),
            (7, ((1,), ((2, 3),), ())), (8, ((2, 3), (), ())), (99, ((2, 3), (), ())),
        ]:
            self.assertEqual(club.standing(0, hour), want, hour)

    def test_without_an_hour_it_is_99(self):
        club = Club()
        club.lesson(3, 2, 2)
        club.wish(0, (1,), 98)
        club.leave(0, 1, 99)
        club.wish(0, (2, 3), 99)
        self.assertEqual(club.standing(0), ((), ((2, 3),), (1,)))
        self.assertEqual(club.standing(0, 99), ((), ((2, 3),), (1,)))
        self.assertEqual(club.standing(0, 98), ((1,), (), ()))

    def test_of_a_lesson_called_off_too(self):
        club = some_club()
        self.assertEqual(club.standing(1), ((1, 9), (), ()))
        self.assertEqual(club.standing(1, 6), ((), (), ()))

    def test_refusals(self):
        club = some_club()
        for number in [True, False, None, -1, 2, "0", [], (0,), {}, 10 ** 20 - 1]:
            self.refuses_and_keeps(club, NoLesson, club.standing, number)
            self.refuses(NoLesson, club.standing, number, 100)
        for hour in [True, False, None, -1, 100, "0", [], (0,), {}, 10 ** 20 - 1]:
            self.refuses_and_keeps(club, NoHour, club.standing, 0, hour)
            self.refuses(NoHour, club.standing, 1, hour)
        self.refuses(NoLesson, Club().standing, 0)

    def test_refusals_of_whatever_kind(self):
        club = some_club()
        for thing in STRANGE:
            if not (type(thing) is int and 0 <= thing <= 1):
                self.refuses(NoLesson, club.standing, thing)
            if not (type(thing) is int and 0 <= thing <= 99):
                self.refuses(NoHour, club.standing, 0, thing)


class TestPersons(ClubTest):
    def test_comings_in_order_whatever_the_lessons_number(self):
        club = Club()
        for number, day in enumerate((30, 5, 59, 0)):
            club.lesson(day)
            club.wish(number, (1, 2), 5)
        self.assertEqual(club.comings(1), (0, 5, 30, 59))
        self.assertEqual(club.comings(2), (0, 5, 30, 59))
        self.assertEqual(club.comings(3), ())

    def test_a_day_as_often_as_there_are_such_lessons(self):
        club = Club()
        for number in range(5):
            club.lesson(7)
            club.wish(number, (1,))
        club.lesson(7)
        self.assertEqual(club.comings(1), (7,) * 5)
        club.call_off(2)
        self.assertEqual(club.comings(1), (7,) * 4)

    def test_who_left_late_comes_and_who_left_in_time_or_waits_does_not(self):
        club = Club()
        club.lesson(7, 3, 50)
        club.wish(0, (1, 2, 3), 5)
        club.wish(0, (4, 5), 6)
        club.leave(0, 1, 50)
        club.leave(0, 2, 51)
        self.assertEqual([club.comings(person) for person in range(6)], [(), (), (7,), (7,), (), ()])
        self.assertEqual(club.losers(), [(2, 1), (3, 1)])

    def test_who_came_in_from_the_row_comes(self):
        club = some_club()
        self.assertEqual([club.comings(person) for person in (1, 2, 3, 9)], [(), (7,), (7,), ()])

    def test_a_lesson_called_off_takes_no_turn(self):
        club = Club()
        for number in range(3):
            club.lesson(7, 4, 50)
            club.wish(number, (1,), 5)
        club.leave(2, 1, 80)
        club.card(1, 0, 9, 1)
        self.assertEqual((club.comings(1), club.taken(1), club.losers()), ((7, 7, 7), (0, None, None), [(1, 2)]))
        club.call_off(2)
        club.call_off(0)
        self.assertEqual((club.comings(1), club.taken(1), club.losers()), ((7,), (0,), []))
        club.undo()
        self.assertEqual((club.comings(1), club.taken(1), club.losers()), ((7, 7), (0, None), [(1, 1)]))

    def test_taken_off_the_persons_own_cards(self):
        club = Club()
        for number, day in enumerate((9, 1, 4, 4)):
            club.lesson(day)
            club.wish(number, (1, 2))
        club.card(1, 0, 9, 1)
        club.card(2, 0, 5, 2)
        club.card(1, 3, 4, 1)
        self.assertEqual((club.taken(1), club.lost(1)), ((0, 1, None, None), 2))
        self.assertEqual((club.taken(2), club.lost(2)), ((0, 0, None, None), 2))
        self.assertEqual((club.taken(3), club.lost(3)), ((), 0))
        club.card(1, 4, 59)
        self.assertEqual((club.taken(1), club.lost(1)), ((0, 1, 2, 2), 0))
        self.assertEqual(club.losers(), [(2, 2)])

    def test_losers_rise_without_those_who_lose_none(self):
        club = Club()
        club.lesson(7)
        club.lesson(8)
        for person in (9, 4, 0):
            club.wish(0, (person,), 5)
        for person in (4, 7):
            club.wish(1, (person,), 5)
        club.card(0, 0, 9)
        club.card(5, 0, 9)
        self.assertEqual(club.losers(), [(4, 2), (7, 1), (9, 1)])
        club.card(4, 8, 8)
        self.assertEqual(club.losers(), [(4, 1), (7, 1), (9, 1)])

    def test_losers_of_nobody(self):
        self.assertEqual(Club().losers(), [])
        club = Club()
        club.card(3, 0, 9)
        club.lesson(7)
        self.assertEqual(club.losers(), [])
        club.wish(0, (3,))
        self.assertEqual(club.losers(), [])

    def test_each_list_told_is_new(self):
        club = some_club()
        first = club.losers()
        self.assertEqual(first, [(3, 1)])
        self.assertIsNot(club.losers(), first)
        first.append((9, 9))
        first[:1] = []
        self.assertEqual(club.losers(), [(3, 1)])
        first.clear()
        self.assertEqual(told_by(club), told_by(some_club()))

    def test_kinds(self):
        club = some_club()
        self.assertEqual([type(told) for told in (club.comings(2), club.taken(2), club.standing(0))], [tuple] * 3)
        self.assertEqual([type(told) for told in (club.lost(2), len(club), club.losers()[0][1])], [int] * 3)
        self.assertEqual([type(told) for told in (club.losers(), club.losers()[0])], [list, tuple])
        self.assertEqual([type(told) for told in (repr(club), str(club), club.twin())], [str, str, Club])
        self.assertEqual([type(told) for told in (club.lesson(3), club.card(1, 2, 3))], [int, int])

    def test_no_person(self):
        for club in [Club(), some_club()]:
            for told in [club.comings, club.taken, club.lost]:
                for person in [*NO_PERSONS, *STRANGE]:
                    if not (type(person) is int and 0 <= person <= 9):
                        self.refuses(NoPerson, told, person)
                self.assertEqual(len(repr(told(9))) > 0, True)


class TestLenAndRepr(ClubTest):
    def test_len_is_how_many_lessons_it_has_given(self):
        club = Club()
        self.assertEqual(len(club), 0)
        for day in range(8):
            club.lesson(day)
            self.assertEqual(len(club), day + 1)
        club.call_off(3)
        self.assertEqual(len(club), 8)
        club.undo()
        club.undo()
        self.assertEqual(len(club), 7)

    def test_repr(self):
        club = Club()
        self.assertEqual(repr(club), "Club(0, 0, 0)")
        for day in range(3):
            club.lesson(day)
        club.call_off(1)
        for person in (0, 9, 3, 3, 3):
            club.card(person, 0, 9, 3)
        self.assertEqual(repr(club), "Club(3, 1, 5)")
        club.call_off(0)
        club.call_off(2)
        self.assertEqual(repr(club), "Club(3, 3, 5)")
        self.assertEqual(repr(full_club()), "Club(8, 0, 8)")

    def test_str_is_its_text(self):
        for club in [Club(), some_club(), full_club()]:
            self.assertEqual(str(club), club_text(club))


class TestEqual(ClubTest):
    def same(self, one, other):
        self.assertIs(one == other, True)
        self.assertIs(other == one, True)
        self.assertIs(one != other, False)

    def differ(self, one, other):
        self.assertIs(one == other, False)
        self.assertIs(other == one, False)
        self.assertIs(one != other, True)

    def test_told_in_another_order(self):
        one = club_of(("lesson", 7), ("lesson", 3), ("card", 1, 0, 9), ("wish", 0, (1,), 5), ("wish", 0, (2,), 6),
                      ("wish", 1, (1,), 5), ("card", 2, 0, 5), ("call_off", 0), ("card", 1, 0, 8))
        other = club_of(("card", 2, 0, 5), ("card", 1, 0, 9), ("lesson", 7), ("wish", 0, (2,), 6), ("card", 1, 0, 8, 10),
                        ("wish", 0, (1,), 5), ("call_off", 0), ("lesson", 3, 4, 24), ("wish", 1, (1,), 5))
        self.same(one, other)
        self.assertEqual(told_by(one), told_by(other))
        self.same(Club(), Club())
        self.same(one, one)

    def test_a_deed_undone_is_as_never_told(self):
        for word, *handed in [("lesson", 3), ("card", 2, 0, 9), ("card", 5, 0, 9), ("wish", 0, (4,), 9),
                              ("leave", 0, 2, 80), ("call_off", 0)]:
            club = some_club()
            getattr(club, word)(*handed)
            self.differ(club, some_club())
            club.undo()
            self.same(club, some_club())
        club = some_club()
        for _ in range(9):
            club.undo()
        self.same(club, Club())

    def test_other_lessons_books_called_off_and_cards(self):
        base = [("lesson", 7, 2, 30), ("lesson", 3, 2, 30), ("wish", 0, (1,), 5), ("card", 1, 0, 9, 3)]
        clubs = [club_of(*base)]
        for at, deed in [
            (0, ("lesson", 8, 2, 30)), (0, ("lesson", 7, 3, 30)), (0, ("lesson", 7, 2, 31)), (1, ("lesson", 7, 2, 30)),
            (2, ("wish", 0, (1,), 6)), (2, ("wish", 0, (2,), 5)), (2, ("wish", 1, (1,), 5)), (2, ("wish", 0, (1, 2), 5)),
            (3, ("card", 2, 0, 9, 3)), (3, ("card", 1, 1, 9, 3)), (3, ("card", 1, 0, 8, 3)), (3, ("card", 1, 0, 9, 4)),
        ]:
            clubs.append(club_of(*base[:at], deed, *base[at + 1:]))
        for more in [("lesson", 3, 2, 30), ("call_off", 0), ("call_off", 1), ("card", 1, 0, 9, 3), ("wish", 1, (1,), 5)]:
            clubs.append(club_of(*base, more))
        for at, one in enumerate(clubs):
            for other in clubs[:at]:
                self.differ(one, other)

    def test_lessons_and_cards_by_number(self):
        self.differ(club_of(("lesson", 7), ("lesson", 3)), club_of(("lesson", 3), ("lesson", 7)))
        self.differ(club_of(("card", 1, 0, 9), ("card", 1, 0, 8)), club_of(("card", 1, 0, 8), ("card", 1, 0, 9)))

    def test_the_same_standing_by_another_book_is_another_club(self):
        one = club_of(("lesson", 7), ("wish", 0, (1,), 5), ("wish", 0, (2,), 5))
        other = club_of(("lesson", 7), ("wish", 0, (1, 2), 5))
        self.assertEqual(one.standing(0), other.standing(0))
        self.differ(one, other)

    def test_no_other_thing_of_whatever_kind(self):
        for club in [Club(), some_club()]:
            for thing in [*STRANGE, (club,), [club], {0: club}, [[club]], str(club), repr(club), len(club), Purse(),
                          object(), Club, ((),) * 10]:
                self.differ(club, thing)


class TestTwin(ClubTest):
    def test_equal_with_nothing_to_undo(self):
        for club in [Club(), some_club(), full_club()]:
            before = told_by(club)
            twin = club.twin()
            self.assertIsNot(twin, club)
            self.assertTrue(twin == club and club == twin)
            self.assertEqual(told_by(twin), before)
            self.refuses_and_keeps(twin, NoDeed, twin.undo)
            self.assertEqual(told_by(club), before)

    def test_the_first_one_can_still_be_undone(self):
        club = some_club()
        club.twin()
        for _ in range(9):
            club.undo()
        self.assertEqual(club, Club())

    def test_neither_one_changes_the_other(self):
        for word, *handed in [("lesson", 3), ("card", 2, 0, 9), ("card", 5, 0, 9), ("wish", 0, (4,), 9),
                              ("leave", 0, 2, 80), ("call_off", 0)]:
            club, twin = some_club(), some_club().twin()
            for changed, kept in [(club, club.twin()), (twin, twin.twin())]:
                before = told_by(kept)
                getattr(changed, word)(*handed)
                self.assertEqual(told_by(kept), before)
                self.assertFalse(kept == changed)
                changed.undo()
                self.assertTrue(kept == changed)

    def test_deeds_of_both(self):
        club = some_club()
        twin = club.twin()
        club.lesson(5)
        twin.card(1, 0, 9)
        club.undo()
        club.undo()
        self.assertEqual((repr(club), repr(twin)), ("Club(2, 0, 2)", "Club(2, 1, 3)"))
        twin.undo()
        self.refuses(NoDeed, twin.undo)
        self.assertEqual(repr(twin), "Club(2, 1, 2)")

    def test_a_twin_of_a_twin(self):
        club = some_club()
        last = club.twin().twin()
        self.assertEqual(last, club)
        with self.assertRaises(ClubError):
            last.undo()


if __name__ == "__main__":
    unittest.main()

"""Point 31: a club's deeds, what each tells and comes to, and their undoing."""

import unittest

from clubs import ClubTest, some_club, told_by
from tenturns.club import Club
from tenturns.errors import ClubError, NoDeed, NotDone


class TestDeeds(ClubTest):
    def test_at_first_there_is_nothing(self):
        club = Club()
        self.assertEqual((len(club), repr(club), str(club), club.losers()), (0, "Club(0, 0, 0)", "", []))
        for person in range(10):
            self.assertEqual((club.comings(person), club.taken(person), club.lost(person)), ((), (), 0))

    def test_lesson_tells_its_number(self):
        club = Club()
        self.assertEqual([club.lesson(day, 2, 30) for day in range(8)], list(range(8)))
        self.assertEqual(len(club), 8)

    def test_lessons_alike(self):
        club = Club()
        self.assertEqual([club.lesson(7), club.lesson(7)], [0, 1])
        club.wish(1, (3,))
        self.assertEqual((club.standing(0), club.standing(1)), (((), (), ()), ((3,), (), ())))

    def test_the_number_behind_undoing_and_calling_off(self):
        club = Club()
        club.lesson(3)
        club.call_off(0)
        self.assertEqual(club.lesson(3), 1)
        club.undo()
        self.assertEqual(club.lesson(4), 1)

    def test_card_tells_how_many_the_person_has(self):
        club = Club()
        self.assertEqual([club.card(3, 0, 9) for _ in range(8)], list(range(1, 9)))
        self.assertEqual([club.card(4, 0, 9), club.card(0, 0, 9, 3), club.card(4, 0, 9)], [1, 1, 2])
        club.undo()
        self.assertEqual(club.card(4, 1, 9), 2)
        self.assertEqual(repr(club), "Club(0, 0, 11)")

    def test_the_others_tell_none(self):
        club = Club()
        club.lesson(7)
        for told in [club.wish(0, (1,)), club.wish(0, (2, 3), 4), club.leave(0, 2, 5), club.leave(0, 1, 6),
                     club.call_off(0), club.undo()]:
            self.assertIsNone(told)

    def test_edges(self):
        club = Club()
        for lesson in [(0, 1, 0), (59, 6, 100), (0, 6, 0)]:
            club.lesson(*lesson)
        for card in [(0, 0, 0, 1), (9, 59, 59, 10), (9, 0, 59, 1)]:
            club.card(*card)
        for number, hour, person in [(0, 0, 0), (1, 99, 9), (2, 0, 9)]:
            club.wish(number, (person,), hour)
            self.assertEqual(club.standing(number, 99), ((person,), (), ()))
        self.assertEqual(repr(club), "Club(3, 0, 3)")

    def test_what_may_be_left_out(self):
        club = Club()
        self.assertEqual([club.lesson(3), club.lesson(3, 2), club.lesson(late=7, day=5)], [0, 1, 2])
        self.assertEqual([club.card(1, 2, 3), club.card(turns=4, last=9, person=1, first=8)], [1, 2])
        club.wish(0, (1,))
        club.wish(party=(2, 3), lesson=0)
        club.wish(hour=5, party=(4,), lesson=0)
        club.leave(hour=6, person=4, lesson=0)
        club.call_off(lesson=1)
        self.assertEqual(str(club), "lesson 3 4 24\n0 wish 1\n0 wish 23\n5 wish 4\n6 leave 4\nlesson 3 2 24\noff\n"
                                    "lesson 5 4 7\ncard 1 2 3 10\ncard 1 8 9 4\n")
        self.assertEqual(club.standing(0), club.standing(hour=99, lesson=0))
        self.assertEqual([club.comings(person=1), club.taken(person=1), club.lost(person=1)], [(3,), (0,), 0])

    def test_an_hour_left_out_is_0(self):
        club = Club()
        club.lesson(3)
        club.wish(0, (1,), 1)
        self.assertEqual(self.refuses(NotDone, club.leave, 0, 1).at, 0)
        # In an hour all leave ahead of all wishes, so in hour 0 nobody can leave.
        club.wish(0, (2,))
        self.assertEqual(club.standing(0, 0), ((2,), (), ()))
        self.assertEqual(self.refuses(NotDone, club.leave, 0, 2).at, 0)

    def test_deeds_of_a_book_stand_in_order(self):
        club = Club()
        club.lesson(3)
        for hour, person in [(50, 1), (3, 2), (99, 3), (3, 0), (0, 4)]:
            club.wish(0, (person,), hour)
        club.leave(0, 4, 3)
        self.assertEqual(str(club), "lesson 3 4 24\n0 wish 4\n3 leave 4\n3 wish 0\n3 wish 2\n50 wish 1\n99 wish 3\n")


class TestUndo(ClubTest):
    def test_each_deed_down_to_the_first(self):
        club = Club()
        deeds = [
            ("lesson", 7, 2, 30), ("wish", 0, (1,), 3), ("card", 1, 0, 9), ("wish", 0, (2, 3), 5), ("lesson", 3),
            ("wish", 1, (1, 9), 7), ("leave", 0, 1, 8), ("call_off", 1), ("card", 2, 0, 9, 1), ("wish", 0, (0,), 1),
            ("call_off", 0), ("lesson", 7, 2, 30), ("card", 1, 0, 9), ("wish", 2, (0,)), ("leave", 2, 0, 80),
        ]
        stages = [told_by(club)]
        for word, *handed in deeds:
            getattr(club, word)(*handed)
            self.assertNotEqual(told_by(club), stages[-1])
            stages.append(told_by(club))
        for stage in reversed(stages[:-1]):
            self.assertIsNone(club.undo())
            self.assertEqual(told_by(club), stage)
        self.refuses_and_keeps(club, NoDeed, club.undo)
        self.refuses_and_keeps(club, NoDeed, club.undo)

    def test_nothing_to_undo(self):
        club = Club()
        self.refuses_and_keeps(club, NoDeed, club.undo)
        club.lesson(3)
        club.undo()
        self.refuses_and_keeps(club, NoDeed, club.undo)

    def test_call_off_is_undone(self):
        club = some_club()
        self.assertEqual((club.comings(1), repr(club)), ((), "Club(2, 1, 2)"))
        club.undo()
        self.assertEqual((club.comings(1), repr(club)), ((3,), "Club(2, 0, 2)"))
        club.call_off(1)
        self.assertEqual((club.comings(1), repr(club)), ((), "Club(2, 1, 2)"))

    def test_the_last_told_not_the_last_of_the_book(self):
        club = Club()
        club.lesson(3)
        club.wish(0, (1,), 50)
        club.wish(0, (2,), 10)
        club.undo()
        self.assertEqual(club.standing(0), ((1,), (), ()))

    def test_a_refused_deed_is_not_what_undo_undoes(self):
        for word, *handed in [
            ("lesson", 60), ("lesson", 3, 0), ("card", 10, 0, 9), ("card", 2, 9, 0), ("wish", 2, (1,)),
            ("wish", 1, (4,)), ("wish", 0, (2, 3), 5), ("wish", 0, (2,), 6), ("leave", 0, 9, 9), ("leave", 1, 1),
            ("leave", 0, 1, 100), ("call_off", 1), ("call_off", 2), ("wish", 0, ()),
        ]:
            club = some_club()
            with self.assertRaises(ClubError):
                getattr(club, word)(*handed)
            club.undo()
            self.assertEqual(repr(club), "Club(2, 0, 2)")
            club.undo()
            self.assertEqual(repr(club), "Club(2, 0, 1)")

    def test_an_undoing_is_not_what_undo_undoes(self):
        club = Club()
        for day in range(3):
            club.lesson(day)
        club.undo()
        club.undo()
        self.assertEqual(len(club), 1)
        club.card(1, 0, 9)
        club.undo()
        club.undo()
        self.refuses(NoDeed, club.undo)

    def test_eighty_deeds(self):
        club = Club()
        for at in range(8):
            club.lesson(at)
        for number in range(4):
            for at in range(8):
                club.wish(number, (at,), at)
        stage = str(club)
        self.assertEqual(stage.count("\n"), 40)
        for _ in range(40):
            club.undo()
        self.refuses(NoDeed, club.undo)
        self.assertEqual(str(club), "")


if __name__ == "__main__":
    unittest.main()

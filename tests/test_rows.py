"""Points 6, 12, 13: what the deeds of a lesson's book do, and what is told of them."""

import unittest
from random import Random

from helper import Row, random_book, random_lesson, row_behind
from tenturns.rows import at_last, diary_of, entries, first_wrong, is_book, standing_by


def wish(hour, *party):
    return hour, "wish", party


def leave(hour, person):
    return hour, "leave", person


class TestWish(unittest.TestCase):
    def test_at_first_nobody_is_there(self):
        self.assertEqual(standing_by((0, 4, 24), ()), ((), (), ()))

    def test_a_party_that_fits_comes_in(self):
        self.assertEqual(standing_by((0, 4, 24), (wish(1, 5, 7),)), ((5, 7), (), ()))
        self.assertEqual(standing_by((0, 2, 24), (wish(1, 5, 7),)), ((5, 7), (), ()))

    def test_a_party_that_does_not_fit_waits_whole(self):
        self.assertEqual(standing_by((0, 1, 24), (wish(1, 5, 7),)), ((), ((5, 7),), ()))
        self.assertEqual(standing_by((0, 2, 24), (wish(1, 1, 2, 3),)), ((), ((1, 2, 3),), ()))

    def test_a_smaller_one_behind_comes_in(self):
        book = (wish(1, 1, 2), wish(2, 3, 4), wish(3, 0))
        self.assertEqual(standing_by((0, 3, 24), book), ((0, 1, 2), ((3, 4),), ()))

    def test_who_waits_stands_in_the_order_of_wishing(self):
        book = (wish(1, 0), wish(2, 8), wish(3, 2, 3), wish(4, 1))
        self.assertEqual(standing_by((0, 1, 24), book), ((0,), ((8,), (2, 3), (1,)), ()))

    def test_inside_rises_whoever_came_first(self):
        self.assertEqual(standing_by((0, 6, 24), (wish(1, 9), wish(2, 0, 5), wish(3, 3))), ((0, 3, 5, 9), (), ()))

    def test_the_lost_take_places(self):
        book = (wish(1, 0, 1), leave(99, 0), wish(99, 2))
        self.assertEqual(standing_by((0, 2, 24), book), ((1,), ((2,),), (0,)))
        self.assertEqual(standing_by((0, 3, 24), book), ((1, 2), (), (0,)))

    def test_who_stands_in_the_row_does_not_wish(self):
        lesson = (0, 2, 24)
        self.assertEqual(first_wrong(lesson, (wish(1, 0), wish(2, 0))), 1)
        self.assertEqual(first_wrong(lesson, (wish(1, 0), wish(2, 0, 1))), 1)
        self.assertEqual(first_wrong(lesson, (wish(1, 0, 1), wish(2, 3), wish(3, 2, 3))), 2)
        self.assertEqual(first_wrong(lesson, (wish(1, 0), leave(99, 0), wish(99, 0, 1))), 2)


class TestLeave(unittest.TestCase):
    def test_just_in_time_and_one_hour_later(self):
        for late in range(2, 100):
            book = (wish(0, 0), wish(0, 1))
            in_time = book + (leave(100 - late, 0),)
            self.assertEqual(standing_by((0, 1, late), in_time), ((1,), (), ()), late)
            too_late = book + (leave(101 - late, 0),)
            self.assertEqual(standing_by((0, 1, late), too_late), ((), ((1,),), (0,)), late)

    def test_late_0_leaves_in_time_up_to_the_last_hour(self):
        book = (wish(0, 0), wish(0, 1), leave(99, 0))
        self.assertEqual(standing_by((0, 1, 0), book), ((1,), (), ()))
        self.assertEqual(standing_by((0, 1, 1), book), ((1,), (), ()))
        self.assertEqual(standing_by((0, 1, 2), book), ((), ((1,),), (0,)))

    def test_late_100_leaves_in_time_at_hour_0_alone(self):
        self.assertEqual(standing_by((0, 1, 100), (wish(0, 0), leave(1, 0))), ((), (), (0,)))
        self.assertEqual(standing_by((0, 1, 99), (wish(0, 0), leave(1, 0))), ((), (), ()))

    def test_in_time_lets_in_from_the_first_that_waits_to_the_last(self):
        # A leave frees one place, and none who waits fitted ahead of it: so by one leave one party comes in at most.
        book = (wish(0, 0, 1, 2), wish(1, 3, 4, 5), wish(2, 6), wish(3, 7, 8), wish(4, 9))
        lesson = (0, 3, 24)
        self.assertEqual(standing_by(lesson, book), ((0, 1, 2), ((3, 4, 5), (6,), (7, 8), (9,)), ()))
        book = book + (leave(5, 1),)
        self.assertEqual(standing_by(lesson, book), ((0, 2, 6), ((3, 4, 5), (7, 8), (9,)), ()))
        book = book + (leave(6, 0), leave(6, 2))
        self.assertEqual(standing_by(lesson, book), ((6, 9), ((3, 4, 5), (7, 8)), ()))
        book = book + (leave(7, 6), leave(7, 9))
        self.assertEqual(standing_by(lesson, book), ((7, 8), ((3, 4, 5),), ()))

    def test_leaves_of_one_hour_let_in_several_parties(self):
        book = (wish(0, 0), wish(0, 1, 2), wish(1, 3, 4, 5), wish(2, 7), wish(3, 6), leave(5, 1), leave(5, 2))
        self.assertEqual(standing_by((0, 3, 24), book), ((0, 6, 7), ((3, 4, 5),), ()))
        self.assertEqual(entries((0, 3, 24), book), [(0, (0,)), (0, (1, 2)), (5, (7,)), (5, (6,))])

    def test_a_place_left_goes_to_the_first_that_waits(self):
        book = (wish(0, 0), wish(1, 2), wish(2, 1), leave(3, 0))
        self.assertEqual(standing_by((0, 1, 24), book), ((2,), ((1,),), ()))

    def test_a_party_may_need_places_left_one_by_one(self):
        book = (wish(0, 0, 1), wish(1, 3, 4, 5), wish(2, 6, 7), leave(3, 0))
        self.assertEqual(standing_by((0, 3, 24), book), ((1, 6, 7), ((3, 4, 5),), ()))
        self.assertEqual(standing_by((0, 2, 24), book), ((1,), ((3, 4, 5), (6, 7)), ()))
        self.assertEqual(standing_by((0, 2, 24), book + (leave(4, 1),)), ((6, 7), ((3, 4, 5),), ()))

    def test_who_waits_leaves_with_the_whole_party(self):
        book = (wish(0, 0), wish(1, 1, 2, 3), wish(2, 4), leave(3, 2))
        self.assertEqual(standing_by((0, 1, 24), book), ((0,), ((4,),), ()))
        self.assertEqual(standing_by((0, 1, 24), book + (wish(4, 1),)), ((0,), ((4,), (1,)), ()))

    def test_who_waits_loses_nothing_however_late(self):
        book = (wish(0, 0), wish(1, 1, 2), leave(99, 1))
        self.assertEqual(standing_by((0, 1, 100), book), ((0,), (), ()))

    def test_of_a_party_inside_one_person_leaves(self):
        self.assertEqual(standing_by((0, 4, 24), (wish(0, 0, 1, 2), leave(1, 1))), ((0, 2), (), ()))

    def test_who_is_not_there_does_not_leave(self):
        lesson = (0, 2, 24)
        self.assertEqual(first_wrong(lesson, (leave(0, 0),)), 0)
        self.assertEqual(first_wrong(lesson, (wish(0, 1), leave(1, 0))), 1)
        self.assertEqual(first_wrong(lesson, (wish(0, 1), leave(1, 1), leave(2, 1))), 2)
        self.assertEqual(first_wrong(lesson, (wish(0, 0, 1), wish(1, 2, 3), leave(2, 2), leave(2, 3))), 3)

    def test_who_has_lost_neither_leaves_nor_wishes(self):
        lesson = (0, 2, 24)
        self.assertEqual(first_wrong(lesson, (wish(0, 1), leave(77, 1), leave(78, 1))), 2)
        self.assertEqual(first_wrong(lesson, (wish(0, 1), leave(77, 1), wish(78, 1))), 2)

    def test_who_left_in_time_may_wish_again(self):
        book = (wish(0, 0), leave(76, 0), wish(77, 0, 1))
        self.assertIsNone(first_wrong((0, 2, 24), book))
        self.assertEqual(standing_by((0, 2, 24), book), ((0, 1), (), ()))

    def test_lost_rises_whoever_lost_first(self):
        book = (wish(0, 3, 5, 7), leave(90, 5), leave(91, 7), leave(92, 3))
        self.assertEqual(standing_by((0, 3, 24), book), ((), (), (3, 5, 7)))

    def test_a_late_leave_lets_nobody_in(self):
        book = (wish(0, 0, 1), wish(1, 2), leave(90, 0), leave(91, 1))
        self.assertEqual(standing_by((0, 2, 24), book), ((), ((2,),), (0, 1)))
        self.assertEqual(entries((0, 2, 24), book), [(0, (0, 1))])


class TestFirstWrong(unittest.TestCase):
    def test_none_where_all_can(self):
        self.assertIsNone(first_wrong((0, 2, 24), ()))
        self.assertIsNone(first_wrong((0, 2, 24), (wish(0, 1), leave(1, 1))))

    def test_the_first_one_of_several(self):
        book = (wish(0, 1), leave(1, 2), leave(2, 1), leave(3, 1))
        self.assertEqual(first_wrong((0, 2, 24), book), 1)

    def test_24_deeds(self):
        book = tuple([wish(at, 0) if at // 2 * 2 == at else leave(at, 0) for at in range(24)])
        self.assertIsNone(first_wrong((0, 1, 24), book))
        self.assertEqual(first_wrong((0, 1, 24), book[:23] + (wish(23, 0),)), 23)
        self.assertEqual(first_wrong((0, 1, 99), book), 4)

    def test_against_the_plain_row(self):
        chance = Random(12)
        seen = set()
        for _ in range(1500):
            lesson = random_lesson(chance)
            book = random_book(chance, lesson, wrong=0.1)
            want = None
            for at in range(len(book)):
                if row_behind(lesson, book[:at + 1]) is None:
                    want = at
                    break
            self.assertEqual(first_wrong(lesson, book), want, (lesson, book))
            seen.add(want)
        self.assertGreater(len(seen), 10)


class TestTold(unittest.TestCase):
    LESSON = (7, 2, 30)
    BOOK = (wish(3, 1), wish(5, 2, 3), wish(5, 4), leave(8, 1), wish(8, 0), leave(80, 4))

    def test_ahead_of_all_deeds(self):
        for hour in range(3):
            self.assertEqual(standing_by(self.LESSON, self.BOOK, hour), ((), (), ()))

    def test_between_two_deeds(self):
        for hour in (3, 4):
            self.assertEqual(standing_by(self.LESSON, self.BOOK, hour), ((1,), (), ()))
        for hour in (8, 9, 79):
            self.assertEqual(standing_by(self.LESSON, self.BOOK, hour), ((0, 4), ((2, 3),), ()))

    def test_an_hour_with_several_deeds(self):
        for hour in (5, 6, 7):
            self.assertEqual(standing_by(self.LESSON, self.BOOK, hour), ((1, 4), ((2, 3),), ()))

    def test_by_99_where_no_hour_is_told(self):
        last = ((0,), ((2, 3),), (4,))
        self.assertEqual(standing_by(self.LESSON, self.BOOK), last)
        self.assertEqual(standing_by(self.LESSON, self.BOOK, 99), last)
        self.assertEqual(standing_by(self.LESSON, self.BOOK, 80), last)
        book = self.BOOK + (leave(99, 0),)
        self.assertEqual(standing_by(self.LESSON, book), ((), ((2, 3),), (0, 4)))
        self.assertEqual(standing_by(self.LESSON, book, 98), last)

    def test_by_name(self):
        self.assertEqual(standing_by(lesson=self.LESSON, book=self.BOOK, hour=4), ((1,), (), ()))
        self.assertEqual(first_wrong(lesson=self.LESSON, book=self.BOOK), None)
        self.assertEqual(entries(lesson=self.LESSON, book=()), [])
        self.assertEqual(at_last(lesson=self.LESSON, book=()), ())

    def test_entries_with_the_hours_of_coming_in(self):
        self.assertEqual(entries(self.LESSON, self.BOOK), [(3, (1,)), (5, (4,)), (8, (0,))])
        book = (wish(1, 8, 9), wish(2, 0, 1), wish(3, 5), leave(4, 9), leave(5, 8), wish(6, 7), leave(70, 5))
        self.assertEqual(entries((0, 2, 30), book), [(1, (8, 9)), (4, (5,)), (6, (7,))])
        book = (wish(1, 0, 1), wish(2, 8, 9), leave(3, 0), leave(4, 1), leave(5, 8), wish(6, 0, 8))
        self.assertEqual(entries((0, 2, 30), book), [(1, (0, 1)), (4, (8, 9))])
        self.assertEqual(entries((0, 2, 30), ()), [])

    def test_entries_of_who_comes_in_twice(self):
        book = (wish(1, 0), leave(2, 0), wish(3, 0))
        self.assertEqual(entries((0, 1, 30), book), [(1, (0,)), (3, (0,))])

    def test_at_last_who_is_inside_or_has_lost(self):
        self.assertEqual(at_last(self.LESSON, self.BOOK), (0, 4))
        self.assertEqual(at_last(self.LESSON, ()), ())
        book = (wish(0, 2, 5, 8), wish(1, 0), leave(2, 8), leave(90, 5))
        self.assertEqual(at_last((0, 4, 30), book), (0, 2, 5))
        self.assertEqual(at_last((0, 1, 30), (wish(0, 2, 5, 8),)), ())


class TestAgainstThePlainRow(unittest.TestCase):
    def test_many_books(self):
        chance = Random(13)
        lengths = set()
        for _ in range(1200):
            lesson = random_lesson(chance)
            book = random_book(chance, lesson)
            lengths.add(len(book))
            self.assertIs(is_book(book), True)
            self.compare(lesson, book, chance)
        self.assertIn(24, lengths)

    def compare(self, lesson, book, chance):
        row = row_behind(lesson, book)
        self.assertIsNone(first_wrong(lesson, book))
        self.assertEqual(standing_by(lesson, book), row.standing(), (lesson, book))
        self.assertEqual(entries(lesson, book), row.came)
        inside, _, lost = row.standing()
        self.assertEqual(at_last(lesson, book), tuple(sorted(inside + lost)))
        self.assertEqual(diary_of(lesson, book), [row_behind(lesson, book[:at]).standing() for at in range(len(book) + 1)])
        hours = {0, 99, chance.randrange(100)} | {deed[0] for deed in book[:5]}
        for hour in sorted(hours):
            early = [deed for deed in book if deed[0] <= hour]
            self.assertEqual(standing_by(lesson, book, hour), row_behind(lesson, early).standing())


class TestPromise(unittest.TestCase):
    """Point 6, of lessons and rows."""

    def test_places_parties_and_turns(self):
        chance = Random(6)
        for _ in range(600):
            lesson = random_lesson(chance)
            book = random_book(chance, lesson)
            diary = diary_of(lesson, book)
            for deed, ahead, (inside, waiting, lost) in zip(((0, "", 0), *book), [diary[0], *diary], diary):
                free = lesson[1] - len(inside) - len(lost)
                self.assertGreaterEqual(free, 0)
                self.assertTrue(all(len(party) > free for party in waiting))
                persons = inside + lost + tuple(person for party in waiting for person in party)
                self.assertEqual(len(set(persons)), len(persons))
                new = [person for person in lost if person not in ahead[2]]
                late = deed[1] == "leave" and deed[0] > 100 - lesson[2] and deed[2] in ahead[0]
                self.assertEqual(new, [deed[2]] if late else [])
                self.parties_come_in_whole(deed, ahead, (inside, waiting, lost))

    def parties_come_in_whole(self, deed, ahead, behind):
        parties = [*ahead[1], *([deed[2]] if deed[1] == "wish" else [])]
        for party in parties:
            self.assertIn(sum(1 for person in party if person in behind[0]), (0, len(party)))

    def test_deeds_of_one_hour_come_to_the_same_however_told(self):
        told = [wish(4, 6), leave(4, 1), wish(4, 2, 3), leave(4, 0)]
        want = standing_by((0, 2, 24), (wish(1, 0, 1), *sorted(told)))
        self.assertEqual(want, ((2, 3), ((6,),), ()))
        self.assertEqual(standing_by((0, 2, 24), (wish(1, 0, 1), *sorted(reversed(told)))), want)
        self.assertIs(is_book((wish(1, 0, 1), *told)), False)

    def test_the_row_of_the_tests_itself(self):
        row = Row((0, 1, 24))
        row.do(wish(0, 1))
        self.assertFalse(row.can(wish(1, 1, 2)))
        self.assertTrue(row.can(leave(1, 1)))


if __name__ == "__main__":
    unittest.main()

"""Point 24: a purse's deeds, what each tells, refuses and comes to, and their undoing."""

import unittest

from helper import STRANGE, every_choice
from tenturns.errors import ClubError, Gone, NoCard, NoDay, NoDeed, NoNumber, TooMany
from tenturns.purse import Purse

BIG = 10 ** 20 - 1
NO_DAYS = [-1, 60, True, False, None, "3", "", [], [3], (3,), (), {}, {3: 3}, BIG, -BIG]
NO_NUMBERS = [0, -1, 25, True, False, None, "3", "", [], [3], (3,), (), {}, {3: 3}, BIG, -BIG]
NO_CARDS = [
    (5, 4, 1), (59, 0, 10), (-1, 4, 1), (0, 60, 1), (60, 60, 1), (0, 4, 0), (0, 4, -1), (0, 4, 11),
    (True, 4, 1), (0, True, 1), (0, 4, True), (False, 4, 1), (0, False, 1), (None, 4, 1), (0, None, 1), (0, 4, None),
    ("0", 4, 1), (0, "4", 1), (0, 4, "1"), ([], 4, 1), (0, (), 1), (0, 4, {}), (0, BIG, 1), (-BIG, 4, 1), (0, 4, BIG),
]


def told_by(purse):
    """All that a purse tells."""
    rooms = [purse.room(day) for day in (0, 3, 5, 9, 30, 59)]
    return (purse.cards(), purse.days(), purse.taken(), purse.lost(), purse.paper(), purse.left(), rooms, len(purse),
            repr(purse))


def some_purse():
    purse = Purse()
    purse.buy(0, 5, 2)
    purse.come(4, 3)
    purse.buy(3, 9, 3)
    purse.come(1)
    purse.miss(4)
    purse.come(9, 4)
    return purse


def full_purse():
    """Eight cards and 24 comings."""
    purse = Purse()
    for at in range(8):
        purse.buy(at, at + 10, at + 1)
    purse.come(5, 20)
    purse.come(9, 4)
    return purse


class PurseTest(unittest.TestCase):
    def refuses(self, error, told, *handed, **named):
        with self.assertRaises(ClubError) as caught:
            told(*handed, **named)
        self.assertIs(type(caught.exception), error, (handed, named))


class TestDeeds(PurseTest):
    def test_at_first_there_is_nothing(self):
        purse = Purse()
        self.assertEqual((purse.cards(), purse.days(), purse.taken(), purse.lost(), purse.left()), ((), (), (), 0, []))
        self.assertEqual((len(purse), repr(purse), purse.room(7)), (0, "Purse(0, 0, 0)", 0))

    def test_buy_tells_the_number(self):
        purse = Purse()
        for number in range(8):
            self.assertEqual(purse.buy(number, 20, 3), number)
        self.assertEqual(purse.cards(), tuple([(number, 20, 3) for number in range(8)]))

    def test_the_number_behind_undoing(self):
        purse = Purse()
        self.assertEqual([purse.buy(0, 5), purse.buy(0, 6)], [0, 1])
        purse.undo()
        self.assertEqual(purse.buy(0, 7), 1)
        self.assertEqual(purse.cards(), ((0, 5, 10), (0, 7, 10)))

    def test_cards_alike(self):
        purse = Purse()
        self.assertEqual([purse.buy(3, 3, 1), purse.buy(3, 3, 1)], [0, 1])
        self.assertEqual(purse.cards(), ((3, 3, 1), (3, 3, 1)))

    def test_the_edges_of_a_card(self):
        for card in [(0, 0, 1), (59, 59, 10), (0, 59, 1)]:
            purse = Purse()
            self.assertEqual(purse.buy(*card), 0)
            self.assertEqual(purse.cards(), (card,))

    def test_the_others_tell_none(self):
        purse = Purse()
        self.assertIsNone(purse.come(3))
        self.assertIsNone(purse.come(3, 4))
        self.assertIsNone(purse.miss(3))
        self.assertIsNone(purse.undo())

    def test_comings_stand_in_order(self):
        purse = Purse()
        for day, many in [(7, 1), (2, 3), (59, 2), (0, 1), (7, 1)]:
            purse.come(day, many)
        self.assertEqual(purse.days(), (0, 2, 2, 2, 7, 7, 59, 59))
        self.assertEqual(len(purse), 8)

    def test_miss_takes_one_out(self):
        purse = Purse()
        purse.come(2)
        purse.come(5, 3)
        purse.come(8)
        for want in [(2, 5, 5, 8), (2, 5, 8), (2, 8)]:
            purse.miss(5)
            self.assertEqual(purse.days(), want)
        purse.miss(2)
        purse.miss(8)
        self.assertEqual(purse.days(), ())

    def test_the_others_of_a_day_need_no_miss(self):
        purse = Purse()
        purse.come(0, 24)
        self.assertEqual(purse.days(), (0,) * 24)
        purse.miss(0)
        purse.come(59)
        self.assertEqual(purse.days(), (0,) * 23 + (59,))

    def test_what_may_be_left_out(self):
        purse = Purse()
        purse.buy(1, 2)
        purse.buy(last=5, first=4)
        purse.buy(turns=3, last=5, first=4)
        purse.come(2)
        purse.come(day=3)
        purse.come(many=2, day=1)
        purse.miss(day=1)
        self.assertEqual(purse.cards(), ((1, 2, 10), (4, 5, 10), (4, 5, 3)))
        self.assertEqual(purse.days(), (1, 2, 3))
        self.assertEqual(purse.room(day=2), purse.room(2))


class TestRefusals(PurseTest):
    def refuses_and_keeps(self, purse, error, told, *handed):
        before = told_by(purse)
        self.refuses(error, told, *handed)
        self.assertEqual(told_by(purse), before)

    def test_no_card(self):
        for purse in [Purse(), some_purse(), full_purse()]:
            for card in NO_CARDS:
                self.refuses_and_keeps(purse, NoCard, purse.buy, *card)

    def test_no_card_of_whatever_kind(self):
        purse = some_purse()
        for thing in STRANGE:
            if not (type(thing) is int and 0 <= thing <= 59):
                self.refuses(NoCard, purse.buy, thing, 59, 1)
                self.refuses(NoCard, purse.buy, 0, thing, 1)
            if not (type(thing) is int and 1 <= thing <= 10):
                self.refuses(NoCard, purse.buy, 0, 59, thing)

    def test_a_ninth_card(self):
        purse = full_purse()
        self.refuses_and_keeps(purse, TooMany, purse.buy, 0, 5)
        self.refuses_and_keeps(purse, TooMany, purse.buy, 0, 5, 1)
        purse.undo()
        purse.undo()
        purse.undo()
        self.assertEqual(purse.buy(0, 5), 7)

    def test_no_day(self):
        for purse in [Purse(), some_purse(), full_purse()]:
            for day in NO_DAYS:
                self.refuses_and_keeps(purse, NoDay, purse.come, day)
                self.refuses_and_keeps(purse, NoDay, purse.miss, day)
                self.refuses_and_keeps(purse, NoDay, purse.room, day)

    def test_no_number(self):
        for purse in [Purse(), some_purse(), full_purse()]:
            for many in NO_NUMBERS:
                self.refuses_and_keeps(purse, NoNumber, purse.come, 4, many)

    def test_no_day_and_no_number_of_whatever_kind(self):
        purse = some_purse()
        for thing in STRANGE:
            if not (type(thing) is int and 0 <= thing <= 59):
                for told in [purse.come, purse.miss, purse.room]:
                    self.refuses(NoDay, told, thing)
            if not (type(thing) is int and 1 <= thing <= 24):
                self.refuses(NoNumber, purse.come, 4, thing)

    def test_the_day_is_looked_at_ahead_of_how_many(self):
        for purse in [Purse(), some_purse(), full_purse()]:
            for day in NO_DAYS:
                for many in NO_NUMBERS:
                    for handed, first in every_choice([4, 1], [day, many]):
                        if first is not None:
                            self.refuses(NoDay if first == 0 else NoNumber, purse.come, *handed)

    def test_a_coming_that_would_make_25(self):
        purse = full_purse()
        self.refuses_and_keeps(purse, TooMany, purse.come, 4)
        self.refuses_and_keeps(purse, TooMany, purse.come, 9, 24)

    def test_several_at_once_that_would_make_25(self):
        purse = Purse()
        purse.come(3, 20)
        for many in (5, 6, 24):
            self.refuses_and_keeps(purse, TooMany, purse.come, 4, many)
        purse.come(4, 4)
        self.assertEqual(len(purse), 24)
        purse = Purse()
        purse.come(3)
        self.refuses_and_keeps(purse, TooMany, purse.come, 3, 24)
        purse.come(3, 23)
        self.assertEqual(purse.days(), (3,) * 24)

    def test_what_is_handed_in_is_looked_at_ahead_of_what_stands(self):
        purse = full_purse()
        self.refuses(NoCard, purse.buy, 5, 4)
        self.refuses(NoDay, purse.come, 60)
        self.refuses(NoNumber, purse.come, 4, 0)
        self.refuses(NoNumber, purse.come, 4, 25)
        self.refuses(NoDay, purse.miss, 60)

    def test_a_miss_on_a_day_without_a_coming(self):
        purse = some_purse()
        for day in (0, 2, 3, 5, 8, 10, 59):
            self.refuses_and_keeps(purse, Gone, purse.miss, day)
        purse.miss(1)
        self.refuses_and_keeps(purse, Gone, purse.miss, 1)
        empty = Purse()
        self.refuses_and_keeps(empty, Gone, empty.miss, 0)

    def test_nothing_to_undo(self):
        purse = Purse()
        self.refuses_and_keeps(purse, NoDeed, purse.undo)
        purse.come(3)
        purse.undo()
        self.refuses_and_keeps(purse, NoDeed, purse.undo)

    def test_a_refused_deed_is_not_what_undo_undoes(self):
        for refused in [("buy", 5, 4), ("buy", 0, True), ("come", 60), ("come", 4, 25), ("come", 4, 24), ("miss", 0),
                        ("miss", None), ("room", -1)]:
            purse = some_purse()
            self.refuses_any(getattr(purse, refused[0]), *refused[1:])
            purse.undo()
            self.assertEqual(purse.days(), (1, 4, 4))
            self.assertEqual(purse.cards(), ((0, 5, 2), (3, 9, 3)))

    def test_a_refused_deed_where_all_is_full(self):
        purse = full_purse()
        self.refuses_any(purse.buy, 0, 5)
        self.refuses_any(purse.come, 5)
        purse.undo()
        self.assertEqual((len(purse), len(purse.cards())), (20, 8))

    def refuses_any(self, told, *handed):
        with self.assertRaises(ClubError):
            told(*handed)


class TestUndo(PurseTest):
    def test_each_deed_down_to_the_first(self):
        purse = Purse()
        deeds = [
            ("buy", 0, 5, 2), ("come", 4, 3), ("buy", 3, 9), ("come", 1), ("miss", 4), ("come", 9, 4), ("miss", 9),
            ("buy", 0, 5, 2), ("miss", 1), ("come", 59, 17),
        ]
        stages = [told_by(purse)]
        for word, *handed in deeds:
            getattr(purse, word)(*handed)
            self.assertNotEqual(told_by(purse), stages[-1])
            stages.append(told_by(purse))
        for stage in reversed(stages[:-1]):
            self.assertIsNone(purse.undo())
            self.assertEqual(told_by(purse), stage)
        self.refuses(NoDeed, purse.undo)
        self.refuses(NoDeed, purse.undo)
        self.assertEqual(told_by(purse), stages[0])

    def test_several_comings_at_once_are_undone_at_once(self):
        purse = Purse()
        purse.come(3, 2)
        purse.come(3, 9)
        purse.undo()
        self.assertEqual(purse.days(), (3, 3))
        purse.undo()
        self.assertEqual(purse.days(), ())

    def test_a_miss_is_undone(self):
        purse = Purse()
        purse.come(3, 2)
        purse.come(1)
        purse.miss(3)
        purse.miss(3)
        purse.undo()
        self.assertEqual(purse.days(), (1, 3))
        purse.undo()
        self.assertEqual(purse.days(), (1, 3, 3))

    def test_an_undoing_is_not_what_undo_undoes(self):
        purse = Purse()
        for day in (1, 2, 3):
            purse.come(day)
        purse.undo()
        purse.undo()
        self.assertEqual(purse.days(), (1,))

    def test_deeds_behind_undoing(self):
        purse = Purse()
        purse.come(1)
        purse.come(2)
        purse.undo()
        purse.buy(0, 5)
        purse.undo()
        self.assertEqual((purse.days(), purse.cards()), ((1,), ()))
        purse.undo()
        self.refuses(NoDeed, purse.undo)

    def test_eighty_deeds(self):
        purse = Purse()
        for at in range(20):
            purse.come(at)
            purse.miss(at)
        for at in range(40):
            purse.undo()
            self.assertEqual(len(purse), (at + 1) % 2)
        self.refuses(NoDeed, purse.undo)


if __name__ == "__main__":
    unittest.main()

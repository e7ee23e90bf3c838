"""Point 24: what a purse tells behind each deed; `len`, `==` and `repr` of it."""

import unittest
from random import Random

from helper import STRANGE, fewest_lost
from plain import PlainPurse
from tenturns.cards import is_taking, room_on, shown_by
from tenturns.club import Club
from tenturns.errors import ClubError
from tenturns.purse import Purse


def purse_of(*deeds):
    purse = Purse()
    for word, *handed in deeds:
        getattr(purse, word)(*handed)
    return purse


def answer(thing, word, handed):
    """What a deed tells, or the class it is refused with."""
    try:
        return getattr(thing, word)(*handed)
    except ClubError as refused:
        return type(refused).__name__


def drawn_deed(chance):
    day = chance.choice((-1, 0, 1, 2, 3, 5, 8, 30, 59, 60, True))
    kinds = [
        ("buy", day, chance.choice((2, 5, 9, 59, 60)), chance.choice((0, 1, 2, 3, 10, 11))), ("buy", 0, 8, 1),
        ("come", day), ("come", day, chance.choice((0, 1, 2, 3, 7, 24, 25))), ("come", 3, 2), ("miss", day), ("undo",),
    ]
    return chance.choice(kinds)


class TestTold(unittest.TestCase):
    def test_by_hand(self):
        purse = purse_of(("buy", 0, 5, 2), ("buy", 3, 9, 1), ("come", 4, 3), ("come", 7), ("come", 1))
        self.assertEqual(purse.taken(), (0, 0, 1, None, None))
        self.assertEqual(purse.lost(), 2)
        self.assertEqual(purse.left(), [0, 0])
        self.assertEqual(shown_by(purse.cards(), purse.days(), purse.paper()), 2)
        self.assertEqual((len(purse), repr(purse)), (5, "Purse(2, 5, 2)"))
        purse.miss(4)
        self.assertEqual(purse.taken(), (0, 0, 1, None))
        purse.buy(7, 7)
        self.assertEqual((purse.taken(), purse.lost(), purse.left()), ((0, 0, 1, 2), 0, [0, 0, 9]))
        self.assertEqual([purse.room(day) for day in (0, 4, 6, 7, 8)], [0, 0, 0, 9, 0])
        self.assertEqual(repr(purse), "Purse(3, 4, 0)")

    def test_behind_each_deed_of_drawn_purses(self):
        chance = Random(24)
        refused = set()
        for _ in range(150):
            purse, plain = Purse(), PlainPurse()
            for _ in range(chance.choice((5, 20, 40))):
                word, *handed = drawn_deed(chance)
                told = answer(purse, word, handed)
                self.assertEqual(told, answer(plain, word, handed), (word, handed, plain.deeds))
                self.assertIn(type(told), (int, str, type(None)))
                refused.add(told if isinstance(told, str) else word)
                self.compare(purse, plain)
        self.assertEqual(refused, {"buy", "come", "miss", "undo", "NoCard", "NoDay", "NoNumber", "TooMany", "Gone",
                                   "NoDeed"})

    def compare(self, purse, plain):
        cards, days = plain.cards(), plain.days()
        self.assertEqual((purse.cards(), purse.days()), (cards, days))
        self.assertEqual((purse.taken(), purse.lost(), purse.left()), (plain.taken(), plain.lost(), plain.left()))
        self.assertTrue(is_taking(cards, days, purse.taken()))
        self.assertEqual(purse.lost(), fewest_lost(cards, days))
        self.assertEqual(shown_by(cards, days, purse.paper()), plain.lost())
        self.assertEqual(len(purse), len(days))
        self.assertEqual(repr(purse), f"Purse({len(cards)}, {len(days)}, {plain.lost()})")

    def test_room_behind_deeds(self):
        chance = Random(240)
        for _ in range(60):
            purse = Purse()
            for _ in range(12):
                word, *handed = drawn_deed(chance)
                answer(purse, word, handed)
            for day in (0, 3, 8, 59):
                room = purse.room(day)
                self.assertEqual(room, room_on(purse.cards(), purse.days(), day))
                more = [tuple(sorted(purse.days() + (day,) * (room + over))) for over in (0, 1)]
                self.assertEqual(fewest_lost(purse.cards(), more[0]), purse.lost())
                self.assertEqual(fewest_lost(purse.cards(), more[1]), purse.lost() + 1)

    def test_room_may_go_beyond_24_together(self):
        purse = purse_of(("buy", 0, 9), ("buy", 0, 9), ("buy", 0, 9), ("come", 3, 20))
        self.assertEqual(purse.room(5), 10)

    def test_left_is_a_new_list_each_time(self):
        purse = purse_of(("buy", 0, 5, 2), ("buy", 3, 9, 3), ("come", 4, 3))
        first = purse.left()
        self.assertEqual(first, [0, 2])
        self.assertIsNot(purse.left(), first)
        first.append("more")
        first[:1] = [7, 7]
        self.assertEqual(purse.left(), [0, 2])
        first.clear()
        self.assertEqual((purse.left(), purse.taken(), purse.lost()), ([0, 2], (0, 0, 1), 0))

    def test_kinds(self):
        purse = purse_of(("buy", 0, 5, 2), ("come", 4, 3))
        self.assertEqual([type(told) for told in (purse.cards(), purse.days(), purse.taken(), purse.paper())], [tuple] * 4)
        self.assertEqual([type(told) for told in (purse.lost(), purse.room(3), purse.left()[0], len(purse))], [int] * 4)
        self.assertEqual([type(purse.left()), type(purse.cards()[0]), type(repr(purse))], [list, tuple, str])
        self.assertIs(type(Purse().buy(0, 5)), int)

    def test_asking_changes_nothing(self):
        purse = purse_of(("buy", 0, 5, 2), ("come", 4, 3))
        for _ in range(3):
            told = (purse.cards(), purse.days(), purse.taken(), purse.lost(), purse.paper(), purse.room(4), repr(purse))
            self.assertEqual(told, (((0, 5, 2),), (4, 4, 4), (0, 0, None), 1, purse.paper(), 0, "Purse(1, 3, 1)"))
        purse.undo()
        self.assertEqual((purse.days(), purse.lost()), ((), 0))


class TestEqual(unittest.TestCase):
    def same(self, one, other):
        self.assertIs(one == other, True)
        self.assertIs(other == one, True)
        self.assertIs(one != other, False)

    def differ(self, one, other):
        self.assertIs(one == other, False)
        self.assertIs(other == one, False)
        self.assertIs(one != other, True)

    def test_in_whatever_order_the_comings_were_put(self):
        self.same(Purse(), Purse())
        self.same(purse_of(("come", 3, 2), ("come", 1)), purse_of(("come", 1), ("come", 3), ("come", 3)))
        self.same(purse_of(("come", 3), ("buy", 0, 5)), purse_of(("buy", 0, 5, 10), ("come", 3)))
        purse = purse_of(("buy", 0, 5), ("come", 3))
        self.same(purse, purse)

    def test_whatever_there_is_to_undo(self):
        purse = purse_of(("come", 3), ("come", 4), ("undo",))
        self.same(purse, purse_of(("come", 3)))
        self.same(purse_of(("come", 3, 3), ("miss", 3)), purse_of(("come", 3, 2)))
        purse.undo()
        self.same(purse, Purse())
        self.same(purse_of(("come", 3), ("miss", 3)), Purse())

    def test_cards_number_by_number(self):
        self.differ(purse_of(("buy", 0, 5), ("buy", 0, 6)), purse_of(("buy", 0, 6), ("buy", 0, 5)))
        self.differ(purse_of(("buy", 0, 5)), purse_of(("buy", 0, 5), ("buy", 0, 5)))
        for other in [("buy", 1, 5, 3), ("buy", 0, 6, 3), ("buy", 0, 5, 4)]:
            self.differ(purse_of(("buy", 0, 5, 3)), purse_of(other))

    def test_other_comings(self):
        self.differ(purse_of(("come", 3)), Purse())
        self.differ(purse_of(("come", 3)), purse_of(("come", 3, 2)))
        self.differ(purse_of(("come", 3)), purse_of(("come", 4)))
        self.differ(purse_of(("come", 3), ("buy", 0, 5)), purse_of(("come", 4), ("buy", 0, 5)))
        self.differ(purse_of(("come", 3), ("buy", 0, 5)), purse_of(("come", 3), ("buy", 0, 6)))

    def test_nothing_else_of_whatever_kind(self):
        for purse in [Purse(), purse_of(("buy", 0, 5), ("come", 3))]:
            for thing in STRANGE:
                self.differ(purse, thing)
            for thing in [(purse,), [purse], {0: purse}, [[purse]], (purse.cards(), purse.days()), purse.days(),
                          len(purse), repr(purse), str(purse), Club(), object(), Purse]:
                self.differ(purse, thing)

    def test_in_lists(self):
        purse = purse_of(("come", 3))
        self.assertIn(purse_of(("come", 3)), [Purse(), purse])
        self.assertNotIn(Purse(), [purse, 0, None])
        self.assertEqual((purse, 1), (purse_of(("come", 3)), 1))


if __name__ == "__main__":
    unittest.main()

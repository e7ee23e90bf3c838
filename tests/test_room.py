"""Point 23: how many more a day could take, and the first short day."""

import unittest
from random import Random

from helper import fewest_lost, random_cards, random_comings
from tenturns.cards import first_short, lost, room_on


def room_plainly(cards, comings, day):
    """Puts comings in one by one and counts again."""
    fewest = fewest_lost(cards, comings)
    room = 0
    while fewest_lost(cards, tuple(sorted(comings + (day,) * (room + 1)))) == fewest:
        room += 1
    return room


class TestRoom(unittest.TestCase):
    def test_some_by_hand(self):
        cards = ((0, 5, 2), (3, 9, 3))
        for day, want in [(0, 2), (2, 2), (3, 5), (5, 5), (6, 3), (9, 3), (10, 0), (59, 0)]:
            self.assertEqual(room_on(cards, (), day), want, day)
        self.assertEqual(room_on(cards, (4,), 0), 2)
        self.assertEqual(room_on(cards, (4, 4, 4, 4), 0), 1)
        self.assertEqual(room_on(cards, (4, 4, 4, 4), 9), 1)
        self.assertEqual(room_on(cards, (4, 4, 4, 4, 4), 4), 0)
        self.assertEqual(room_on(cards=cards, comings=(4,), day=4), 4)

    def test_no_cards_and_no_comings(self):
        self.assertEqual(room_on((), (), 5), 0)
        self.assertEqual(room_on((), (1, 5), 5), 0)
        self.assertEqual(room_on(((5, 5, 10),), (), 5), 10)

    def test_where_some_are_lost_already(self):
        self.assertEqual(room_on(((0, 5, 2),), (9, 9), 3), 2)
        self.assertEqual(room_on(((0, 5, 2),), (1, 1, 1), 1), 0)
        self.assertEqual(room_on(((0, 5, 2), (7, 9, 4)), (1, 1, 1), 8), 4)

    def test_a_coming_put_in_shifts_others(self):
        self.assertEqual(room_on(((0, 9, 1), (5, 5, 1)), (5,), 2), 1)
        self.assertEqual(room_on(((0, 5, 1), (3, 9, 1)), (4,), 1), 1)
        self.assertEqual(room_on(((0, 5, 1), (3, 9, 1)), (4,), 9), 1)

    def test_beyond_24_together(self):
        cards = ((0, 59, 10),) * 8
        self.assertEqual(room_on(cards, (), 30), 80)
        self.assertEqual(room_on(cards, (7,) * 24, 30), 56)
        self.assertEqual(room_on(cards, (7,) * 24, 0), 56)
        self.assertEqual(room_on(cards, tuple(range(24)), 12), 56)

    def test_against_comings_put_in_one_by_one(self):
        chance = Random(23)
        seen = set()
        for _ in range(250):
            last_day = chance.choice((2, 6, 15))
            cards = random_cards(chance, chance.randint(0, 5), last_day, chance.choice((2, 5)))
            comings = random_comings(chance, chance.choice((0, 2, 6, 12, 24)), last_day)
            day = chance.randint(0, last_day)
            room = room_on(cards, comings, day)
            self.assertEqual(room, room_plainly(cards, comings, day), (cards, comings, day))
            seen.add(room)
        self.assertGreater(len(seen), 8)

    def test_beyond_24_against_one_by_one(self):
        chance = Random(230)
        beyond = 0
        for _ in range(40):
            cards = random_cards(chance, 8, 15, 10)
            comings = random_comings(chance, chance.randint(18, 24), 15)
            day = chance.randint(0, 15)
            room = room_on(cards, comings, day)
            self.assertEqual(room, room_plainly(cards, comings, day), (cards, comings, day))
            beyond += len(comings) + room > 24
        self.assertGreater(beyond, 10)


class TestFirstShort(unittest.TestCase):
    def test_some_by_hand(self):
        self.assertIsNone(first_short((), ()))
        self.assertIsNone(first_short(((0, 5, 2),), ()))
        self.assertIsNone(first_short(((0, 5, 2),), (1, 5)))
        self.assertEqual(first_short((), (7,)), 7)
        self.assertEqual(first_short((), (0, 7)), 0)
        self.assertEqual(first_short(((0, 5, 2),), (1, 2, 3, 4)), 3)
        self.assertEqual(first_short(((0, 5, 2),), (1, 1, 1, 4)), 1)
        self.assertEqual(first_short(cards=((0, 5, 2), (7, 9, 1)), comings=(1, 2, 7, 8, 9)), 8)

    def test_against_the_comings_day_by_day(self):
        chance = Random(231)
        seen = set()
        for _ in range(300):
            cards = random_cards(chance, chance.randint(0, 6), 12, 3)
            comings = random_comings(chance, chance.randint(0, 24), 12)
            want = None
            for day in reversed(range(60)):
                if fewest_lost(cards, tuple([one for one in comings if one <= day])):
                    want = day
            self.assertEqual(first_short(cards, comings), want, (cards, comings))
            self.assertEqual(want is None, lost(cards, comings) == 0)
            seen.add(want)
        self.assertGreater(len(seen), 9)


if __name__ == "__main__":
    unittest.main()

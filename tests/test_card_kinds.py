"""Points 2, 3 and 21: what is a card, cards, comings, a taking."""

import unittest
from copy import deepcopy
from itertools import product
from random import Random

from helper import STRANGE, all_takings, random_cards, random_comings
from tenturns.cards import are_cards, are_comings, is_card, is_taking, taken_by_rule

BIG = 10 ** 19 + 7
NUMBERLESS = [True, False, None, "0", "1", [], [0], (), (0,), {}, {0: 0}, BIG, -BIG]


class KindTest(unittest.TestCase):
    def tells(self, told, thing, want):
        before = deepcopy(thing)
        self.assertIs(told(thing), want, repr(thing)[:80])
        self.assertEqual(repr(thing), repr(before))


class TestCard(KindTest):
    def test_bounds_of_the_days(self):
        for day in range(60):
            self.tells(is_card, (day, 59, 1), True)
            self.tells(is_card, (0, day, 1), True)
            self.tells(is_card, (day, day, 1), True)
        for day in [-1, 60, *NUMBERLESS]:
            self.tells(is_card, (day, 59, 1), False)
            self.tells(is_card, (0, day, 1), False)

    def test_the_first_day_is_not_behind_the_last(self):
        for first, last in product(range(0, 60, 7), repeat=2):
            self.tells(is_card, (first, last, 3), first <= last)
        self.tells(is_card, (31, 30, 3), False)

    def test_bounds_of_the_turns(self):
        for turns in range(1, 11):
            self.tells(is_card, (3, 5, turns), True)
        for turns in [-1, 0, 11, *NUMBERLESS]:
            self.tells(is_card, (3, 5, turns), False)

    def test_other_shapes(self):
        for thing in [(), (3,), (3, 5), (3, 5, 1, 1), [3, 5, 1], "351", {3: 1, 5: 1, 1: 1}, ((3, 5, 1),)]:
            self.tells(is_card, thing, False)

    def test_strange_things(self):
        for thing in STRANGE:
            self.tells(is_card, thing, False)


class TestCards(KindTest):
    def test_up_to_eight(self):
        for many in range(9):
            self.tells(are_cards, ((3, 5, 1),) * many, True)
        for many in (9, 10, 300):
            self.tells(are_cards, ((3, 5, 1),) * many, False)

    def test_in_any_order(self):
        self.tells(are_cards, ((30, 31, 9), (0, 59, 1), (7, 7, 10), (0, 1, 1)), True)

    def test_a_card_that_is_none(self):
        good = (3, 5, 1)
        for bad in [*STRANGE, (5, 3, 1), (3, 5, 0), (3, 60, 1), [3, 5, 1]]:
            self.tells(are_cards, (bad,), False)
            self.tells(are_cards, (good, bad), False)
            self.tells(are_cards, (bad, good), False)

    def test_strange_things(self):
        for thing in [*STRANGE, [(3, 5, 1)], (3, 5, 1), {(3, 5, 1): 0}, "", []]:
            self.tells(are_cards, thing, repr(thing) == "()")


class TestComings(KindTest):
    def test_up_to_24(self):
        for many in range(25):
            self.tells(are_comings, (7,) * many, True)
            self.tells(are_comings, tuple(range(many)), True)
        for many in (25, 26, 600):
            self.tells(are_comings, (7,) * many, False)
        self.tells(are_comings, tuple(range(25)), False)

    def test_bounds_of_a_day(self):
        for day in range(60):
            self.tells(are_comings, (day,), True)
        for day in [-1, 60, *NUMBERLESS]:
            self.tells(are_comings, (day,), False)
            self.tells(are_comings, (0, day), False)
            self.tells(are_comings, (day, 59), False)

    def test_none_ahead_of_an_earlier_one(self):
        for days in product(range(3), repeat=4):
            self.tells(are_comings, days, days[0] <= days[1] <= days[2] <= days[3])

    def test_strange_things(self):
        for thing in [*STRANGE, [1, 2], "12", {1: 2}, (1, "2"), ("1", 2), (1, None), (1, [2])]:
            # By its repr, as True == 1 in Python.
            want = repr(thing) in ("()", "(0,)", "(1,)")
            self.tells(are_comings, thing, want)


class TestTaking(unittest.TestCase):
    CARDS = ((0, 5, 2), (3, 9, 1), (20, 30, 3))
    COMINGS = (1, 3, 3, 9, 40)

    def test_takings(self):
        for thing in [(0, 0, 1, None, None), (0, 1, 0, None, None), (None, 0, 0, 1, None), (None,) * 5]:
            self.assertIs(is_taking(self.CARDS, self.COMINGS, thing), True, thing)
        self.assertIs(is_taking(cards=(), comings=(), thing=()), True)
        self.assertIs(is_taking((), (1, 2), (None, None)), True)
        self.assertIs(is_taking(self.CARDS, (), ()), True)

    def test_more_often_than_it_has_turns(self):
        for thing in [(0, 0, 0, None, None), (None, 1, 1, None, None), (None, 1, None, 1, None)]:
            self.assertIs(is_taking(self.CARDS, self.COMINGS, thing), False, thing)

    def test_a_card_that_is_not_valid_on_the_day(self):
        for at, number in [(0, 1), (0, 2), (1, 2), (3, 0), (3, 2), (4, 0), (4, 1), (4, 2)]:
            thing = (None,) * at + (number,) + (None,) * (4 - at)
            self.assertIs(is_taking(self.CARDS, self.COMINGS, thing), False, thing)

    def test_first_and_last_day_and_all_between(self):
        for day in range(60):
            self.assertIs(is_taking(((20, 30, 1),), (day,), (0,)), 20 <= day <= 30)

    def test_numbers_that_are_no_card(self):
        for number in [-1, 3, 8, BIG, -BIG, True, False, "0", (), [], [0], (0,), {}, {0: 0}]:
            for at in range(5):
                thing = (None,) * at + (number,) + (None,) * (4 - at)
                self.assertIs(is_taking(self.CARDS, self.COMINGS, thing), False, thing)
        self.assertIs(is_taking(((0, 5, 2),), (1,), (-1,)), False)
        self.assertIs(is_taking((), (1,), (0,)), False)
        self.assertIs(is_taking(((0, 5, 1), (0, 5, 1)), (1, 1), (True, False)), False)

    def test_other_lengths_and_shapes(self):
        good = (0, 0, 1, None, None)
        for thing in [good[:4], good + (None,), (), list(good), dict(enumerate(good)), "00", (good,)]:
            self.assertIs(is_taking(self.CARDS, self.COMINGS, thing), False)

    def test_strange_things(self):
        for thing in STRANGE:
            before = repr(thing)
            self.assertIs(is_taking(self.CARDS, self.COMINGS, thing), False)
            self.assertEqual(repr(thing), before)
            want = before in ("(None,)", "(0,)")
            self.assertIs(is_taking(self.CARDS, (1,), thing), want, thing)

    def test_against_all_tried_one_by_one(self):
        chance = Random(21)
        for _ in range(60):
            cards = random_cards(chance, chance.randint(0, 3), 5, 2)
            comings = random_comings(chance, chance.randint(0, 4), 5)
            takings = all_takings(cards, comings)
            for thing in product((None, *range(-1, 4)), repeat=len(comings)):
                self.assertIs(is_taking(cards, comings, thing), thing in takings)


class TestByRule(unittest.TestCase):
    def test_the_card_that_ends_first(self):
        self.assertEqual(taken_by_rule(((0, 9, 1), (0, 5, 1)), (3, 3)), (1, 0))
        self.assertEqual(taken_by_rule(((0, 9, 1), (4, 8, 1), (0, 5, 1)), (3, 4, 5)), (2, 1, 0))

    def test_of_several_that_end_on_the_same_day_the_first(self):
        self.assertEqual(taken_by_rule(((2, 5, 1), (0, 5, 10), (3, 5, 1)), (3, 3, 3)), (0, 1, 1))
        self.assertEqual(taken_by_rule(((0, 5, 1),) * 3, (1, 2, 3, 4)), (0, 1, 2, None))
        self.assertEqual(taken_by_rule(((0, 9, 2), (0, 5, 1), (5, 5, 1)), (5, 5, 5)), (1, 2, 0))

    def test_no_turns_left(self):
        self.assertEqual(taken_by_rule(((0, 5, 2), (0, 9, 1)), (1, 1, 1, 1)), (0, 0, 1, None))

    def test_ten_turns(self):
        self.assertEqual(taken_by_rule(((0, 5, 10),), (1,) * 12), (0,) * 10 + (None,) * 2)

    def test_valid_on_the_first_and_last_day_and_between(self):
        self.assertEqual(taken_by_rule(((3, 5, 10),), (2, 3, 4, 5, 6)), (None, 0, 0, 0, None))
        self.assertEqual(taken_by_rule(((3, 3, 10),), (2, 3, 4)), (None, 0, None))

    def test_none_and_then_some_again(self):
        self.assertEqual(taken_by_rule(((5, 6, 1), (1, 1, 1)), (0, 1, 1, 5)), (None, 1, None, 0))

    def test_no_cards_and_no_comings(self):
        self.assertEqual(taken_by_rule((), (1, 2)), (None, None))
        self.assertEqual(taken_by_rule(((0, 5, 2),), ()), ())
        self.assertEqual(taken_by_rule(cards=(), comings=()), ())

    def test_it_is_a_taking(self):
        chance = Random(210)
        for _ in range(300):
            cards = random_cards(chance, chance.randint(0, 8), 12, 4)
            comings = random_comings(chance, chance.randint(0, 24), 14)
            taking = taken_by_rule(cards, comings)
            self.assertIs(is_taking(cards, comings, taking), True)
            self.assertEqual(taking, self.by_rule_plainly(cards, comings))

    def by_rule_plainly(self, cards, comings):
        used = [0] * len(cards)
        taking = []
        for day in comings:
            order = sorted(range(len(cards)), key=lambda number: cards[number][1])
            fit = [n for n in order if cards[n][0] <= day <= cards[n][1] and used[n] < cards[n][2]]
            taking.append(fit[0] if fit else None)
            if fit:
                used[fit[0]] += 1
        return tuple(taking)


if __name__ == "__main__":
    unittest.main()

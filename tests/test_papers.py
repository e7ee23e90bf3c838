"""Points 6 and 22: how many comings are lost at the least, and the papers that show it."""

import unittest
from itertools import combinations
from random import Random
from time import perf_counter

from helper import STRANGE, all_takings, fewest_lost, random_cards, random_comings
from tenturns.cards import lost, paper_of, shown_by, taken_by_rule

BIG = 10 ** 19 + 7


def is_paper(thing):
    """Of what the tests make of days: whether it rises."""
    return isinstance(thing, tuple) and list(thing) == sorted(set(thing))


class TestLost(unittest.TestCase):
    def test_some_by_hand(self):
        self.assertEqual(lost((), ()), 0)
        self.assertEqual(lost((), (1, 2, 2)), 3)
        self.assertEqual(lost(((0, 5, 2),), ()), 0)
        self.assertEqual(lost(((0, 5, 2),), (1, 2, 2)), 1)
        self.assertEqual(lost(((0, 5, 2), (2, 2, 1)), (1, 2, 2)), 0)
        self.assertEqual(lost(cards=((0, 5, 2),), comings=(6,)), 1)
        # Off the card that ends last, or is named first, the coming on day 1 would cost the one on day 9.
        self.assertEqual(lost(((0, 9, 1), (0, 5, 1)), (1, 9)), 0)

    def test_against_all_takings_tried_one_by_one(self):
        chance = Random(22)
        seen = set()
        for _ in range(250):
            cards = random_cards(chance, chance.randint(0, 3), 6, 2)
            comings = random_comings(chance, chance.randint(0, 5), 7)
            fewest = min(taking.count(None) for taking in all_takings(cards, comings))
            self.assertEqual(lost(cards, comings), fewest, (cards, comings))
            self.assertEqual(fewest_lost(cards, comings), fewest)
            seen.add(fewest)
        self.assertEqual(seen, {0, 1, 2, 3, 4, 5})

    def test_the_taking_by_rule_loses_no_more(self):
        chance = Random(220)
        for _ in range(400):
            cards = random_cards(chance, chance.randint(0, 8), 20, 4)
            comings = random_comings(chance, chance.randint(0, 24), 22)
            self.assertEqual(lost(cards, comings), fewest_lost(cards, comings), (cards, comings))
            self.assertEqual(lost(cards, comings), taken_by_rule(cards, comings).count(None))


class TestShown(unittest.TestCase):
    CARDS = ((0, 5, 2), (3, 9, 1), (20, 30, 3))
    COMINGS = (1, 3, 3, 3, 9, 40, 40)

    def test_comings_less_turns(self):
        for paper, want in [
            ((3,), 0), ((1, 3), 1), ((1, 3, 9), 2), ((40,), 2), ((3, 40), 2), ((1, 3, 9, 40), 4), ((9,), 0),
        ]:
            self.assertEqual(shown_by(self.CARDS, self.COMINGS, paper), want, paper)

    def test_nothing_shown(self):
        self.assertEqual(shown_by(self.CARDS, self.COMINGS, ()), 0)
        self.assertEqual(shown_by((), (), ()), 0)
        self.assertEqual(shown_by((), (), (1, 2)), 0)
        self.assertEqual(shown_by(self.CARDS, (), (1, 2)), 0)

    def test_days_without_comings(self):
        self.assertEqual(shown_by(self.CARDS, self.COMINGS, (2, 40)), 0)
        self.assertEqual(shown_by(self.CARDS, self.COMINGS, (40, 50)), 2)
        self.assertEqual(shown_by(self.CARDS, self.COMINGS, (1, 3, 9, 20)), 0)
        self.assertEqual(shown_by(self.CARDS, self.COMINGS, (1, 3, 9, 19)), 2)
        self.assertEqual(shown_by(self.CARDS, self.COMINGS, tuple(range(60))), 1)

    def test_each_card_counts_once(self):
        self.assertEqual(shown_by(((0, 9, 2),), (1, 2, 3, 4), (1, 2, 3, 4)), 2)
        self.assertEqual(shown_by(((0, 9, 1), (0, 9, 1)), (1, 2, 3, 4), (1, 2, 3)), 1)

    def test_by_name(self):
        self.assertEqual(shown_by(cards=self.CARDS, comings=self.COMINGS, thing=(40,)), 2)

    def test_what_is_no_paper(self):
        for thing in [(1, 1), (2, 1), (1, 3, 2), (60,), (-1,), (1, 60), (-1, 1), (True,), (False,), (0, True), [1, 2],
                      [], {}, {1: 2}, "", "1", None, True, 1, (BIG,), (-BIG, 1), ("1",), (None,), ((1,),), (1, "2"),
                      (1, None), tuple(range(61))]:
            self.assertIsNone(shown_by(self.CARDS, self.COMINGS, thing), thing)

    def test_strange_things(self):
        for thing in STRANGE:
            before = repr(thing)
            want = 0 if before in ("()", "(0,)", "(1,)") else None
            self.assertEqual(shown_by(self.CARDS, self.COMINGS, thing), want, thing)
            self.assertEqual(repr(thing), before)

    def test_no_paper_shows_more_than_are_lost(self):
        chance = Random(223)
        for _ in range(60):
            cards = random_cards(chance, chance.randint(0, 3), 7, 2)
            comings = random_comings(chance, chance.randint(0, 8), 7)
            papers = [paper for many in range(9) for paper in combinations(range(8), many)]
            most = max(shown_by(cards, comings, paper) for paper in papers)
            self.assertEqual(most, lost(cards, comings))


class TestPaper(unittest.TestCase):
    def compare(self, cards, comings):
        paper = paper_of(cards, comings)
        self.assertTrue(is_paper(paper), paper)
        self.assertIs(type(paper), tuple)
        self.assertEqual(shown_by(cards, comings, paper), lost(cards, comings), (cards, comings))

    def test_some_by_hand(self):
        for cards, comings in [
            ((), ()), ((), (3,)), (((0, 5, 2),), ()), (((0, 5, 2),), (1, 1, 1)), (((0, 5, 2),), (1, 1, 7)),
            (((0, 5, 1), (3, 9, 1)), (1, 4, 4, 8)), (((0, 5, 1), (3, 9, 1), (8, 20, 1)), (1, 4, 8, 15, 15)),
        ]:
            self.compare(cards, comings)
        self.assertEqual(shown_by((), (3, 3), paper_of(cards=(), comings=(3, 3))), 2)

    def test_days_ahead_of_and_behind_the_lost_one_are_needed(self):
        cards = ((0, 5, 1), (3, 9, 1), (8, 20, 1))
        comings = (1, 4, 8, 15)
        self.assertEqual(lost(cards, comings), 1)
        self.assertEqual(shown_by(cards, comings, (15,)), 0)
        self.compare(cards, comings)

    def test_many_inputs(self):
        chance = Random(224)
        for _ in range(1500):
            last_day = chance.choice((1, 3, 8, 20, 59))
            cards = random_cards(chance, chance.randint(0, 8), last_day, chance.choice((1, 2, 5, 10)))
            comings = random_comings(chance, chance.randint(0, 24), last_day)
            self.compare(cards, comings)

    def test_24_comings_on_24_days_and_eight_cards_at_once(self):
        chance = Random(225)
        begun = perf_counter()
        for _ in range(50):
            comings = tuple(sorted(chance.sample(range(60), 24)))
            self.compare(random_cards(chance, 8, 59, 3), comings)
        chain = tuple([(at * 3, at * 3 + 3, 2) for at in range(8)])
        self.compare(chain, tuple(range(24)))
        self.compare(chain, tuple(range(1, 25)))
        self.assertLess(perf_counter() - begun, 10)


if __name__ == "__main__":
    unittest.main()

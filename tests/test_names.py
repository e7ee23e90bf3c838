"""Point 3: each function and method of the interface by places, by names, in another order, with something left out."""

import inspect
import unittest

from clubs import some_club, told_by
from tenturns import cards, club, lines, purse, rows

LESSON = (7, 2, 30)
BOOK = ((3, "wish", (1,)), (5, "wish", (2, 3)), (8, "leave", 1), (99, "wish", (4,)))
CARDS = ((0, 5, 2), (3, 9, 1))
COMINGS = (1, 4, 4, 4, 7)
DIARY = [((), (), ()), ((1,), (), ()), ((1,), ((2, 3),), ()), ((2, 3), (), ()), ((2, 3), ((4,),), ())]

OF_LESSON = {"lesson": LESSON, "book": BOOK}
OF_COMINGS = {"cards": CARDS, "comings": COMINGS}
FUNCTIONS = {
    rows: {
        "is_lesson": {"thing": LESSON}, "is_party": {"thing": (1, 2)}, "is_deed": {"thing": BOOK[0]},
        "is_book": {"thing": BOOK}, "first_wrong": OF_LESSON, "standing_by": {**OF_LESSON, "hour": 5},
        "entries": OF_LESSON, "at_last": OF_LESSON, "diary_of": OF_LESSON, "is_diary": {**OF_LESSON, "thing": DIARY},
    },
    cards: {
        "is_card": {"thing": CARDS[0]}, "are_cards": {"thing": CARDS}, "are_comings": {"thing": COMINGS},
        "is_taking": {**OF_COMINGS, "thing": (0, 0, 1, None, None)}, "taken_by_rule": OF_COMINGS, "lost": OF_COMINGS,
        "shown_by": {**OF_COMINGS, "thing": (1, 4)}, "paper_of": OF_COMINGS, "room_on": {**OF_COMINGS, "day": 4},
        "first_short": OF_COMINGS,
    },
    lines: {"club_text": {"club": some_club()}, "club_read": {"text": "lesson 7 2 30\noff\n"}},
}

PURSE = {
    "buy": {"first": 2, "last": 30, "turns": 4}, "come": {"day": 4, "many": 2}, "miss": {"day": 4}, "undo": {},
    "cards": {}, "days": {}, "taken": {}, "lost": {}, "paper": {}, "room": {"day": 4}, "left": {},
}
CLUB = {
    "lesson": {"day": 2, "places": 5, "late": 30}, "card": {"person": 1, "first": 2, "last": 30, "turns": 4},
    "wish": {"lesson": 0, "party": (5, 6), "hour": 7}, "leave": {"lesson": 0, "person": 1, "hour": 7},
    "call_off": {"lesson": 0}, "undo": {}, "standing": {"lesson": 0, "hour": 7}, "comings": {"person": 2},
    "taken": {"person": 2}, "lost": {"person": 2}, "losers": {}, "twin": {},
}
PURSE_LEFT_OUT = {"buy": {"turns": 10}, "come": {"many": 1}}
CLUB_LEFT_OUT = {
    "lesson": {"places": 4, "late": 24}, "card": {"turns": 10}, "wish": {"hour": 0}, "standing": {"hour": 99},
    "leave": {"hour": 0},
}


def purse_told(one):
    return one.cards(), one.days(), one.taken(), one.paper(), one.left(), repr(one)


def some_purse():
    made = purse.Purse()
    made.buy(0, 5, 2)
    made.come(4, 3)
    return made


def backwards(named):
    return dict(reversed(named.items()))


class TestFunctions(unittest.TestCase):
    def test_by_places_and_by_names(self):
        for module, functions in FUNCTIONS.items():
            for name, named in functions.items():
                told = getattr(module, name)
                self.assertEqual(list(inspect.signature(told).parameters), list(named), name)
                want = told(*named.values())
                self.assertEqual(told(**named), want, name)
                self.assertEqual(told(**backwards(named)), want, name)

    def test_all_functions_are_tried(self):
        for module, functions in FUNCTIONS.items():
            own = [name for name, one in vars(module).items() if inspect.isfunction(one) and name[0] != "_"]
            self.assertEqual({name for name in own if getattr(module, name).__module__ == module.__name__}, set(functions))

    def test_left_out(self):
        self.assertEqual(rows.standing_by(LESSON, BOOK), rows.standing_by(LESSON, BOOK, 99))
        self.assertEqual(rows.standing_by(book=BOOK, lesson=LESSON), DIARY[-1])
        self.assertNotEqual(rows.standing_by(LESSON, BOOK), rows.standing_by(LESSON, BOOK, 98))


class TestMethods(unittest.TestCase):
    def outcome(self, made, told_by_it, name, handed, named):
        """What a method tells, or the class it is refused with, and what its object tells behind it."""
        try:
            told = getattr(made, name)(*handed, **named)
        except ValueError as refused:
            told = type(refused), getattr(refused, "at", None)
        return told, told_by_it(made)

    def compare(self, make, told_by_it, name, named, left_out):
        want = self.outcome(make(), told_by_it, name, list(named.values()), {})
        self.assertEqual(self.outcome(make(), told_by_it, name, [], named), want, name)
        self.assertEqual(self.outcome(make(), told_by_it, name, [], backwards(named)), want, name)
        short = {key: thing for key, thing in named.items() if key not in left_out}
        full = self.outcome(make(), told_by_it, name, [], {**named, **left_out})
        self.assertEqual(self.outcome(make(), told_by_it, name, list(short.values()), {}), full, name)
        self.assertEqual(self.outcome(make(), told_by_it, name, [], backwards(short)), full, name)

    def test_of_a_purse(self):
        for name, named in PURSE.items():
            self.assertEqual(list(inspect.signature(getattr(purse.Purse, name)).parameters), ["self", *named])
            self.compare(some_purse, purse_told, name, named, PURSE_LEFT_OUT.get(name, {}))

    def test_of_a_club(self):
        for name, named in CLUB.items():
            self.assertEqual(list(inspect.signature(getattr(club.Club, name)).parameters), ["self", *named])
            self.compare(some_club, told_by, name, named, CLUB_LEFT_OUT.get(name, {}))

    def test_all_methods_are_tried(self):
        for made, methods in [(purse.Purse, PURSE), (club.Club, CLUB)]:
            self.assertEqual({name for name in vars(made) if name[0] != "_"}, set(methods))

    def test_made_without_arguments(self):
        self.assertEqual(repr(purse.Purse()), "Purse(0, 0, 0)")
        self.assertEqual(repr(club.Club()), "Club(0, 0, 0)")


if __name__ == "__main__":
    unittest.main()

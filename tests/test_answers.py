"""Points 3 and 4: names of arguments, kinds of what is told; nothing handed in is changed, each list told is new."""

import inspect
import unittest
from copy import deepcopy

from helper import STRANGE
from tenturns import cards, club, lines, purse, rows

LESSON = (7, 2, 30)
BOOK = ((3, "wish", (1,)), (5, "wish", (2, 3)), (8, "leave", 1), (80, "leave", 2))
CARDS = ((0, 5, 2), (3, 9, 1))
COMINGS = (1, 4, 4, 4, 7)

INTERFACE = {
    rows: {
        "is_lesson": "(thing)", "is_party": "(thing)", "is_deed": "(thing)", "is_book": "(thing)",
        "first_wrong": "(lesson, book)", "standing_by": "(lesson, book, hour=99)", "entries": "(lesson, book)",
        "at_last": "(lesson, book)", "diary_of": "(lesson, book)", "is_diary": "(lesson, book, thing)",
    },
    cards: {
        "is_card": "(thing)", "are_cards": "(thing)", "are_comings": "(thing)", "is_taking": "(cards, comings, thing)",
        "taken_by_rule": "(cards, comings)", "lost": "(cards, comings)", "shown_by": "(cards, comings, thing)",
        "paper_of": "(cards, comings)", "room_on": "(cards, comings, day)", "first_short": "(cards, comings)",
    },
    purse: {"Purse": "()"},
    club: {"Club": "()"},
    lines: {"club_text": "(club)", "club_read": "(text)"},
}
METHODS = {
    purse.Purse: {
        "buy": "(self, first, last, turns=10)", "come": "(self, day, many=1)", "miss": "(self, day)", "undo": "(self)",
        "cards": "(self)", "days": "(self)", "taken": "(self)", "lost": "(self)", "paper": "(self)",
        "room": "(self, day)", "left": "(self)", "__len__": "(self)", "__eq__": "(self, other)", "__repr__": "(self)",
    },
    club.Club: {
        "lesson": "(self, day, places=4, late=24)", "card": "(self, person, first, last, turns=10)",
        "wish": "(self, lesson, party, hour=0)", "leave": "(self, lesson, person, hour=0)",
        "call_off": "(self, lesson)", "undo": "(self)", "standing": "(self, lesson, hour=99)",
        "comings": "(self, person)", "taken": "(self, person)", "lost": "(self, person)", "losers": "(self)",
        "__len__": "(self)", "__eq__": "(self, other)", "__repr__": "(self)", "__str__": "(self)", "twin": "(self)",
    },
}


class TestInterface(unittest.TestCase):
    def test_names_and_arguments(self):
        for module, told in INTERFACE.items():
            for name, handed in told.items():
                one = getattr(module, name)
                self.assertEqual(str(inspect.signature(one)), handed, name)
                self.assertEqual(one.__module__, module.__name__, name)

    def test_methods_stand_in_the_class_itself(self):
        for made, told in METHODS.items():
            for name, handed in told.items():
                self.assertEqual(str(inspect.signature(vars(made)[name])), handed, name)

    def test_kinds_of_what_is_told(self):
        for told, want in [
            (rows.standing_by(LESSON, BOOK), tuple), (rows.entries(LESSON, BOOK), list),
            (rows.at_last(LESSON, BOOK), tuple), (rows.diary_of(LESSON, BOOK), list),
            (rows.first_wrong(LESSON, BOOK[1:]), int), (cards.taken_by_rule(CARDS, COMINGS), tuple),
            (cards.lost(CARDS, COMINGS), int), (cards.shown_by(CARDS, COMINGS, (4,)), int),
            (cards.paper_of(CARDS, COMINGS), tuple), (cards.room_on(CARDS, COMINGS, 7), int),
            (cards.first_short(CARDS, COMINGS), int),
        ]:
            self.assertIs(type(told), want)

    def test_parts_of_what_is_told_are_plain_tuples(self):
        for standing in [rows.standing_by(LESSON, BOOK), *rows.diary_of(LESSON, BOOK)]:
            self.assertEqual([type(part) for part in (standing, *standing)], [tuple] * 4)
            self.assertTrue(all(type(party) is tuple for party in standing[1]))
        for entry in rows.entries(LESSON, BOOK):
            self.assertEqual([type(entry), type(entry[0]), type(entry[1])], [tuple, int, tuple])


class TestUnchanged(unittest.TestCase):
    def ask_all(self):
        return [
            rows.first_wrong(LESSON, BOOK), rows.standing_by(LESSON, BOOK, 6), rows.entries(LESSON, BOOK),
            rows.at_last(LESSON, BOOK), rows.diary_of(LESSON, BOOK), cards.taken_by_rule(CARDS, COMINGS),
            cards.lost(CARDS, COMINGS), cards.paper_of(CARDS, COMINGS), cards.room_on(CARDS, COMINGS, 7),
            cards.first_short(CARDS, COMINGS), cards.shown_by(CARDS, COMINGS, (4,)),
        ]

    def test_the_same_asked_again(self):
        first = deepcopy(self.ask_all())
        for _ in range(3):
            self.assertEqual(repr(self.ask_all()), repr(first))

    def test_refusals_between_change_nothing(self):
        first = deepcopy(self.ask_all())
        for told in [rows.entries, rows.diary_of, cards.lost, cards.paper_of]:
            for handed in [(None, None), (LESSON, BOOK[1:] + ((99, "leave", 9),)), (CARDS, (7, 1))]:
                with self.assertRaises(ValueError):
                    told(*handed)
        self.assertEqual(self.ask_all(), first)

    def test_each_list_told_is_new(self):
        for told in [rows.entries, rows.diary_of]:
            for book in [BOOK, ()]:
                first = told(LESSON, book)
                want = deepcopy(first)
                self.assertIsNot(told(LESSON, book), first)
                first.append("more")
                first[:1] = ["other", "things"]
                self.assertEqual(told(LESSON, book), want)
                first.clear()
                self.assertEqual(told(LESSON, book), want)

    def test_what_is_handed_in_stays_as_it_was(self):
        handed = deepcopy([LESSON, BOOK, CARDS, COMINGS])
        self.ask_all()
        self.assertEqual(repr([LESSON, BOOK, CARDS, COMINGS]), repr(handed))
        for thing in deepcopy(STRANGE) + [rows.diary_of(LESSON, BOOK)]:
            before = repr(thing)
            rows.is_diary(LESSON, BOOK, thing)
            cards.is_taking(CARDS, COMINGS, thing)
            cards.shown_by(CARDS, COMINGS, thing)
            self.assertEqual(repr(thing), before)

    def test_what_was_told_may_be_handed_in_again(self):
        self.assertIs(rows.is_diary(LESSON, BOOK, rows.diary_of(LESSON, BOOK)), True)
        self.assertIs(cards.is_taking(CARDS, COMINGS, cards.taken_by_rule(CARDS, COMINGS)), True)
        self.assertEqual(cards.shown_by(CARDS, COMINGS, cards.paper_of(CARDS, COMINGS)), 2)
        for hour, party in rows.entries(LESSON, BOOK):
            self.assertIs(rows.is_deed((hour, "wish", party)), True)
        self.assertIs(rows.is_party(rows.at_last(LESSON, BOOK)), True)


if __name__ == "__main__":
    unittest.main()

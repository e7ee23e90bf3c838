"""Point 41: the text of a club, and the club that a text writes."""

import unittest
from random import Random

from clubs import ClubTest, full_club, some_club, told_by
from drawn import drawn_club
from helper import STRANGE
from plain import writes_a_club
from tenturns.club import Club
from tenturns.errors import ClubError, NoDeed, NoText
from tenturns.lines import club_read, club_text

SOME = "lesson 7 2 30\n3 wish 1\n5 wish 23\n8 leave 1\nlesson 3 4 24\n7 wish 19\noff\ncard 2 0 9 10\ncard 2 0 9 1\n"
SIGNS = "\n 0123459abcdflnorsw+-._,()LO\t~"

NOT_WRITTEN = [
    "\n", " ", "\n\n", "lesson", "lesson\n", "lesson 7 2 30", "lesson 7 2\n", "lesson 7 2 30 1\n", "off\n", "0 wish 1\n",
    "card\n", "card 1 0 9\n", "card 1 0 9 3 3\n", "card 1 0 9 3", "club\n", "lesson a b c\n", "card a b c d\n",
    " lesson 7 2 30\n", "lesson  7 2 30\n", "lesson 7 2 30 \n", "lesson 7 2 30\n\n", "\nlesson 7 2 30\n",
    "lesson 7 2 30\n \n", "lesson\t7 2 30\n", "lesson 7 2 30\r\n", "lesson 7 2 30\r", "lesson 7 2 30\x0b",
    "Lesson 7 2 30\n", "LESSON 7 2 30\n", "lessons 7 2 30\n", "lesson 07 2 30\n", "lesson 7 02 30\n", "lesson 7 2 030\n",
    "lesson +7 2 30\n", "lesson -7 2 30\n", "lesson -0 2 30\n", "lesson 00 2 30\n", "lesson 7 2 3_0\n", "lesson 7. 2 30\n",
    "lesson 60 2 30\n", "lesson 7 0 30\n", "lesson 7 7 30\n", "lesson 7 2 101\n", "lesson 7 2 1000\n", "lesson  2 30\n",
    "lesson 7 2 30\n3 wish 1", "lesson 7 2 30\n3 wish 1 \n", "lesson 7 2 30\n 3 wish 1\n", "lesson 7 2 30\n3  wish 1\n",
    "lesson 7 2 30\n3 wish \n", "lesson 7 2 30\n3 wish\n", "lesson 7 2 30\nwish 1\n", "lesson 7 2 30\n3 wish 1 2\n",
    "lesson 7 2 30\n3 wish 21\n", "lesson 7 2 30\n3 wish 11\n", "lesson 7 2 30\n3 wish 0123\n", "lesson 7 2 30\n3 wish a\n",
    "lesson 7 2 30\n3 wish 1,2\n", "lesson 7 2 30\n3 wish -1\n", "lesson 7 2 30\n03 wish 1\n", "lesson 7 2 30\n100 wish 1\n",
    "lesson 7 2 30\n+3 wish 1\n", "lesson 7 2 30\n-1 wish 1\n", "lesson 7 2 30\n3 Wish 1\n", "lesson 7 2 30\n3 want 1\n",
    "lesson 7 2 30\n3 wish (1,)\n", "lesson 7 2 30\n3 wish 1\n4 leave 01\n", "lesson 7 2 30\n3 wish 1\n4 leave 2\n",
    "lesson 7 2 30\n3 wish 1\n4 leave 10\n", "lesson 7 2 30\n3 wish 1\n4 leave +1\n", "lesson 7 2 30\n3 wish 1\n4 leave \n",
    "lesson 7 2 30\n3 wish 12\n4 leave 12\n", "lesson 7 2 30\n3 wish 1\n3 leave 1\n", "lesson 7 2 30\n4 leave 1\n3 wish 1\n",
    "lesson 7 2 30\n3 wish 1\n3 wish 1\n", "lesson 7 2 30\n4 wish 1\n3 wish 2\n", "lesson 7 2 30\n3 wish 2\n3 wish 1\n",
    "lesson 7 2 30\n3 wish 1\n4 wish 12\n", "lesson 7 2 30\noff\n3 wish 1\n", "lesson 7 2 30\noff\noff\n",
    "lesson 7 2 30\n3 wish 1\noff\n4 leave 1\n", "lesson 7 2 30\noff", "lesson 7 2 30\noff \n", "lesson 7 2 30\n off\n",
    "lesson 7 2 30\nOff\n", "lesson 7 2 30\noff 0\n", "off\nlesson 7 2 30\n", "3 wish 1\nlesson 7 2 30\n",
    "card 1 0 9 3\nlesson 7 2 30\n", "lesson 7 2 30\ncard 1 0 9 3\n3 wish 1\n", "lesson 7 2 30\ncard 1 0 9 3\noff\n",
    "lesson 7 2 30\ncard 1 0 9 3\nlesson 7 2 30\n", "card 2 0 9 3\ncard 1 0 9 3\n", "card 1 0 9 3\n0 wish 1\n",
    "card 1 0 9 3\ncard 2 0 9 3\ncard 1 0 9 3\n", "card 10 0 9 3\n", "card 1 9 0 3\n", "card 1 0 60 3\n", "card 1 0 9 0\n",
    "card 1 0 9 11\n", "card 01 0 9 3\n", "card 1 00 9 3\n", "card 1 0 09 3\n", "card 1 0 9 03\n", "card 1 0 9 +3\n",
    "card 1 0 9 3 \n", " card 1 0 9 3\n", "card  1 0 9 3\n", "Card 1 0 9 3\n", "card 1 0 9 -3\n", "card 1 0 9 3\n\n",
    "lesson 7 2 30\n" * 9, "card 1 0 9 3\n" * 9, "lesson 7 2 30\n3 wish 1\nleave 1\n", "lesson 7 2 30\n3 leave\n",
    "lesson " + "1" * 2900 + " 2 30\n", "lesson 7 2 30\n" + "1" * 2900 + " wish 1\n", "lesson 7 2 30\n3 wish " + "1" * 2900,
    "card 1 0 9 " + "9" * 2900 + "\n", "9" * 3000, "\n" * 3000, " " * 3000, "lesson " * 400, "lesson 7 2 " + "0" * 2900 + "\n",
]

OTHER_FIGURES = ["\u0667", "\u00b2", "\uff17", "\u2466", "\u0967", "\u00bd", "\u4e03", "\u2167"]


def book_of(many):
    """A text of one lesson with a book of so many deeds, all of which can be done."""
    lines = [f"{hour} wish {hour // 2 % 10}\n" if hour % 2 == 0 else f"{hour} leave {hour // 2 % 10}\n"
             for hour in range(many)]
    return "lesson 7 2 30\n" + "".join(lines)


class LinesTest(ClubTest):
    def no_text(self, thing):
        with self.assertRaises(ClubError) as caught:
            club_read(thing)
        self.assertIs(type(caught.exception), NoText, thing)

    def reads(self, text):
        club = club_read(text)
        self.assertIs(type(club), Club)
        self.assertEqual(club_text(club), text)
        self.refuses(NoDeed, club.undo)
        return club


class TestText(LinesTest):
    def test_sign_by_sign(self):
        self.assertEqual(club_text(some_club()), SOME)

    def test_of_an_empty_club(self):
        self.assertEqual(club_text(Club()), "")
        self.assertEqual(self.reads(""), Club())

    def test_book_in_order_and_cards_by_person_and_number(self):
        club = Club()
        club.card(9, 1, 2, 3)
        club.card(0, 0, 0, 1)
        club.lesson(59, 6, 100)
        club.card(9, 0, 59)
        club.wish(0, (0, 5, 9), 99)
        club.wish(0, (1,), 10)
        club.leave(0, 1, 99)
        club.wish(0, (7,), 9)
        club.card(0, 5, 6, 1)
        club.lesson(0, 1, 0)
        club.call_off(0)
        text = ("lesson 59 6 100\n9 wish 7\n10 wish 1\n99 leave 1\n99 wish 059\noff\nlesson 0 1 0\n"
                "card 0 0 0 1\ncard 0 5 6 1\ncard 9 1 2 3\ncard 9 0 59 10\n")
        self.assertEqual(club_text(club), text)
        self.assertEqual(str(club), text)
        self.assertEqual(self.reads(text), club)
        self.assertEqual(club_text(club=club), text)
        self.assertEqual(club_read(text=text), club)

    def test_kinds(self):
        self.assertIs(type(club_text(some_club())), str)
        self.assertIs(type(club_read(SOME)), Club)

    def test_writing_changes_nothing(self):
        club = some_club()
        for _ in range(3):
            self.assertEqual(club_text(club), SOME)
        self.assertEqual(told_by(club), told_by(some_club()))
        club.undo()
        self.assertEqual(club_text(club), SOME.replace("off\n", ""))


class TestRead(LinesTest):
    def test_what_a_club_writes_is_read(self):
        for club in [Club(), some_club(), full_club(), some_club().twin()]:
            read = self.reads(club_text(club))
            self.assertTrue(read == club and club == read)
            self.assertEqual(told_by(read), told_by(club))

    def test_nothing_to_undo_and_the_deeds_go_on(self):
        club = self.reads(SOME)
        club.lesson(9)
        club.undo()
        self.refuses(NoDeed, club.undo)
        self.assertEqual(club_text(club), SOME)
        self.assertEqual(club.lesson(9), 2)
        self.assertEqual(club.card(2, 0, 9), 3)

    def test_the_same_text_again_is_another_club(self):
        one, other = club_read(SOME), club_read(SOME)
        one.lesson(9)
        self.assertEqual(club_text(other), SOME)
        self.assertFalse(one == other)

    def test_texts_at_the_edges(self):
        for text in [
            "lesson 0 1 0\n", "lesson 59 6 100\n", "lesson 7 2 30\noff\n", "lesson 7 2 30\n" * 8, "card 9 59 59 10\n",
            "card 0 0 0 1\n" * 8, "lesson 7 2 30\noff\n" * 8, "lesson 7 2 30\n0 wish 0\n99 leave 0\n99 wish 789\n",
            book_of(24), book_of(24) + "off\n", book_of(24) * 4, book_of(23) + "card 1 0 9 3\n",
            "lesson 7 2 30\n0 wish 123\n0 wish 456\n1 leave 2\n", "".join(f"card {n} 0 9 3\n" * 8 for n in range(10)),
        ]:
            self.assertTrue(writes_a_club(text), text)
            self.reads(text)

    def test_a_book_of_25_deeds(self):
        self.no_text(book_of(25))
        self.no_text(book_of(26) + "card 1 0 9 3\n")
        self.no_text(book_of(24) + "99 wish 9\n")

    def test_texts_that_no_club_writes(self):
        for text in NOT_WRITTEN:
            self.assertFalse(writes_a_club(text), text)
            self.no_text(text)

    def test_figures_that_are_not_those_from_0_to_9(self):
        for figure in OTHER_FIGURES:
            for text in ["lesson 7 2 30\n", "lesson 7 2 30\n7 wish 7\n7 wish 8\n", "card 7 7 7 7\n",
                         "lesson 7 2 30\n7 wish 7\n8 leave 7\n"]:
                self.reads(text)
                for at in range(len(text)):
                    if text[at] == "7":
                        self.no_text(text[:at] + figure + text[at + 1:])
            self.no_text(figure)

    def test_no_text_of_whatever_kind(self):
        for thing in [*STRANGE, [SOME], (SOME,), {SOME: SOME}, SOME.split("\n"), {0: "lesson 7 2 30\n"}, some_club(),
                      Club(), SOME.encode()]:
            if repr(thing) != "''":
                self.no_text(thing)

    def test_much_longer_texts_are_refused_too(self):
        for text in ["lesson " + "1" * 5000 + " 2 30\n", "lesson 7 2 30\n3 wish 1\n4 leave " + "1" * 9000 + "\n", "0" * 9000]:
            self.no_text(text)


class TestEachSign(LinesTest):
    """Texts changed a little: they are read where the patterns and the rules say so, else refused."""

    def looks_at(self, text):
        if writes_a_club(text):
            self.reads(text)
            return True
        self.no_text(text)
        return False

    def test_one_sign_taken_out_put_in_or_put_in_its_place(self):
        read = refused = 0
        for text in [SOME, "lesson 7 2 30\noff\ncard 2 0 9 10\n", "lesson 0 2 100\n0 wish 0\n"]:
            for at in range(len(text) + 1):
                texts = [text[:at] + text[at + 1:], text[:at] + text[at:at + 2][::-1] + text[at + 2:], text[:at]]
                texts.extend(text[:at] + sign + text[at:] for sign in SIGNS)
                texts.extend(text[:at] + sign + text[at + 1:] for sign in SIGNS)
                for changed in texts:
                    if self.looks_at(changed):
                        read += 1
                    else:
                        refused += 1
        self.assertGreater(read, 300)
        self.assertGreater(refused, 8000)

    def test_lines_taken_out_put_in_or_changed_with_others(self):
        chance = Random(41)
        read = refused = 0
        for _ in range(60):
            lines = club_text(drawn_club(chance, chance.choice((10, 30, 60)))).splitlines(keepends=True)
            for _ in range(15):
                changed = list(lines)
                one, other = [chance.randrange(len(lines) + 1) for _ in range(2)]
                kind = chance.randrange(4)
                if kind == 0:
                    changed[one:one + 1] = []
                elif kind == 1:
                    changed[one:one] = lines[other:other + 1]
                elif kind == 2:
                    changed[one:one + 1], changed[other:other + 1] = lines[other:other + 1], lines[one:one + 1]
                else:
                    changed[one:one] = [chance.choice(("off\n", "card 3 0 9 10\n", "lesson 3 4 24\n", "9 leave 3\n",
                                                       "0 wish 3\n", "99 wish 012\n", "\n", "card 0 9 9 1\n"))]
                if self.looks_at("".join(changed)):
                    read += 1
                else:
                    refused += 1
        self.assertGreater(read, 100)
        self.assertGreater(refused, 300)

    def test_drawn_clubs_there_and_back(self):
        chance = Random(410)
        for _ in range(150):
            club = drawn_club(chance, chance.choice((3, 20, 60)))
            text = club_text(club)
            self.assertTrue(writes_a_club(text), text)
            read = self.reads(text)
            self.assertTrue(read == club)
            self.assertEqual(read.losers(), club.losers())


if __name__ == "__main__":
    unittest.main()

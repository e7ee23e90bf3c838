"""Points 5, 6, 31, 32 over the whole program: drawn clubs against plain ones, in any order, beside purses."""

import unittest
from random import Random

from clubs import told_by
from drawn import answer, bad_deed, drawn_club, drawn_deed, drawn_party
from helper import fewest_lost
from plain import PlainClub, good_book
from tenturns.cards import is_taking, paper_of, shown_by
from tenturns.club import Club
from tenturns.lines import club_read, club_text
from tenturns.purse import Purse
from tenturns.rows import at_last, standing_by


def told_like(club):
    """What a club and a plain one tell alike."""
    lessons = str(club).count("lesson")
    standings = [club.standing(number, hour) for number in range(lessons) for hour in (0, 5, 40, 70, 99)]
    persons = [(club.comings(person), club.taken(person), club.lost(person)) for person in range(10)]
    return standings, persons, club.losers(), repr(club), str(club)


def deeds_of(club):
    """The deeds by which a club's text can be told again, and the parts of each lesson and person, in order."""
    parts, number = [], -1
    cards = {}
    for line in club_text(club).splitlines():
        words = line.split(" ")
        if words[0] == "lesson":
            number += 1
            parts.append([("lesson", *map(int, words[1:]))])
        elif words[0] == "card":
            cards.setdefault(words[1], []).append(("card", *map(int, words[1:])))
        elif words[0] == "off":
            parts[-1].append(("call_off", number))
        elif words[1] == "wish":
            parts[-1].append(("wish", number, tuple(map(int, words[2])), int(words[0])))
        else:
            parts[-1].append(("leave", number, int(words[2]), int(words[0])))
    return parts, list(cards.values())


def orders_of_a_book(chance, lesson, deeds):
    """The deeds of a book in an order drawn by chance in which each one is let: taken out one by one from behind."""
    order, left = [], list(deeds)
    while left:
        at = chance.randrange(len(left))
        rest = left[:at] + left[at + 1:]
        if good_book(lesson, [(deed[3], deed[0], deed[2]) for deed in rest]):
            order.append(left[at])
            left = rest
    return order[::-1]


def tell_in_any_order(chance, club):
    """Another club, told the same deeds in an order drawn by chance, with refused and undone ones between."""
    parts, cards = deeds_of(club)
    queues = [list(own) for own in cards]
    lessons = [part[0] for part in parts]
    for part in parts:
        deeds = [deed for deed in part[1:] if deed[0] != "call_off"]
        queues.append(orders_of_a_book(chance, part[0][1:], deeds) + part[1 + len(deeds):])
    told, order = Club(), []
    while lessons or any(queues):
        ready = [queue for queue in queues if queue and (queue[0][0] == "card" or queue[0][1] < len(told))]
        queue = lessons if lessons and (not ready or chance.random() < 0.2) else chance.choice(ready)
        tried = [deed for other in queues for deed in other[1:2]]
        if tried and not isinstance(answer(told, *apart(chance.choice(tried))), tuple):
            told.undo()
        word, *handed = queue.pop(0)
        getattr(told, word)(*handed)
        order.append((word, *handed))
    return told, order


def apart(deed):
    return deed[0], deed[1:]


class TestAgainstAPlainOne(unittest.TestCase):
    def test_each_deed_and_all_that_is_told_behind_it(self):
        chance = Random(31)
        seen = set()
        for _ in range(16):
            club, plain, deed = Club(), PlainClub(), ("undo",)
            for day in range(chance.choice((0, 0, 3, 7))):
                self.assertEqual(club.lesson(day), plain.lesson(day))
            for at in range(chance.choice((20, 40, 70))):
                if at > 0 and chance.random() < 0.95:
                    deed = (bad_deed if chance.random() < 0.2 else drawn_deed)(chance, club)
                word, *handed = deed
                told = answer(club, word, handed)
                self.assertEqual(told, answer(plain, word, handed), (word, handed, plain.deeds))
                seen.add(told[0] if isinstance(told, tuple) else word)
                self.assertEqual(told_like(club), told_like(plain))
                self.assertEqual(len(club), len(plain.lessons()))
        self.assertEqual(seen, {
            "lesson", "card", "wish", "leave", "call_off", "undo", "NoLesson", "NoCard", "NoPerson", "NoParty", "NoHour",
            "TooMany", "Off", "There", "NotDone", "NoDeed",
        })

    def test_one_long_book(self):
        chance = Random(310)
        places, full = set(), 0
        for _ in range(12):
            club, plain = Club(), PlainClub()
            for made in (club, plain):
                made.lesson(7, 3, 40)
            for at in range(79):
                hour = at if chance.random() < 0.7 else chance.randrange(100)
                who = drawn_party(chance) if chance.random() < 0.4 else chance.randrange(10)
                word, handed = ("wish" if isinstance(who, tuple) else "leave"), (0, who, hour)
                told = answer(club, word, handed)
                self.assertEqual(told, answer(plain, word, handed), (word, handed, plain.deeds))
                if told is not None:
                    places.add(told[1])
                    full += told[0] == "TooMany"
                self.assertEqual(told_like(club), told_like(plain))
        self.assertGreater(len(places), 15)
        self.assertGreater(full, 10)

    def test_undone_to_the_first_deed(self):
        chance = Random(311)
        most = 0
        for _ in range(30):
            club, stages = Club(), []
            for _ in range(40):
                word, *handed = drawn_deed(chance, club)
                before = told_by(club)
                if word != "undo" and not isinstance(answer(club, word, handed), tuple):
                    stages.append(before)
            most = max(most, len(stages))
            while stages:
                club.undo()
                self.assertEqual(told_by(club), stages.pop())
            self.assertEqual(answer(club, "undo", ()), ("NoDeed", None))
        self.assertGreater(most, 15)


class TestPromise(unittest.TestCase):
    def test_told_in_any_order_that_is_let(self):
        chance = Random(6)
        other_orders = 0
        for _ in range(80):
            club = drawn_club(chance, chance.choice((20, 40, 60)))
            first, order = tell_in_any_order(chance, club)
            second, other_order = tell_in_any_order(chance, club)
            for told in (first, second):
                self.assertTrue(club == told and told == club)
                self.assertEqual(told_by(told), told_by(club))
            self.assertEqual(sorted(map(repr, order)), sorted(map(repr, other_order)))
            other_orders += [one for one in order if one[0] == "wish"] != [one for one in other_order if one[0] == "wish"]
        self.assertGreater(other_orders, 50)

    def test_undoing_between_changes_nothing(self):
        chance = Random(60)
        for _ in range(40):
            club, other = Club(), Club()
            for _ in range(25):
                word, *handed = drawn_deed(chance, other)
                more, *more_handed = drawn_deed(chance, other)
                if "undo" in (word, more):
                    continue
                answer(club, word, handed)
                answer(other, word, handed)
                if not isinstance(answer(other, more, more_handed), tuple):
                    other.undo()
            self.assertTrue(club == other)
            self.assertEqual(told_by(other), told_by(club))

    def test_a_purse_with_the_same_cards_and_comings_tells_the_same(self):
        chance = Random(61)
        losing = 0
        for _ in range(60):
            club = drawn_club(chance, 60)
            cards = dict((own[0][1], [card[2:] for card in own]) for own in deeds_of(club)[1])
            for person in range(10):
                purse = Purse()
                for card in cards.get(person, []):
                    purse.buy(*card)
                for day in sorted(club.comings(person), reverse=True):
                    purse.come(day)
                self.assertEqual((club.taken(person), club.lost(person)), (purse.taken(), purse.lost()))
                self.assertEqual(club.comings(person), purse.days())
                self.assertEqual(dict(club.losers()).get(person, 0), purse.lost())
                self.assertTrue(is_taking(purse.cards(), purse.days(), club.taken(person)))
                self.assertEqual(fewest_lost(purse.cards(), purse.days()), club.lost(person))
                shown = shown_by(purse.cards(), purse.days(), paper_of(purse.cards(), club.comings(person)))
                self.assertEqual(shown, club.lost(person))
                losing += club.lost(person) > 0
        self.assertGreater(losing, 100)

    def test_a_lesson_called_off_takes_no_turn(self):
        chance = Random(62)
        taken_less = 0
        for _ in range(60):
            club = drawn_club(chance, 40)
            parts, _ = deeds_of(club)
            for number, part in enumerate(parts):
                before = {person: club.comings(person) for person in range(10)}
                standing = club.standing(number)
                if part[-1] == ("call_off", number):
                    continue
                club.call_off(number)
                self.assertEqual(club.standing(number), standing)
                came = at_last(part[0][1:], tuple((deed[3], deed[0], deed[2]) for deed in part[1:]))
                for person in range(10):
                    want = list(before[person])
                    if person in came:
                        want.remove(part[0][1])
                        taken_less += 1
                    self.assertEqual(club.comings(person), tuple(want))
                club.undo()
                self.assertEqual(club.comings(0), before[0])
        self.assertGreater(taken_less, 100)

    def test_lessons_hold_no_more_than_their_places_and_nobody_waits_who_fits(self):
        chance = Random(63)
        for _ in range(60):
            club = drawn_club(chance, 60)
            for number, part in enumerate(deeds_of(club)[0]):
                for hour in (0, 20, 60, 99):
                    inside, waiting, lost = club.standing(number, hour)
                    free = part[0][2] - len(inside) - len(lost)
                    self.assertGreaterEqual(free, 0)
                    self.assertTrue(all(len(party) > free for party in waiting))
                    persons = [*inside, *lost, *[person for party in waiting for person in party]]
                    self.assertEqual(len(persons), len(set(persons)))

    def test_the_standing_is_that_of_its_book(self):
        chance = Random(64)
        for _ in range(40):
            club = drawn_club(chance, 40)
            for number, part in enumerate(deeds_of(club)[0]):
                book = tuple((deed[3], deed[0], deed[2]) for deed in part[1:] if deed[0] != "call_off")
                self.assertEqual(club.standing(number), standing_by(part[0][1:], book))

    def test_read_from_its_lines_it_is_equal(self):
        chance = Random(65)
        for _ in range(60):
            club = drawn_club(chance, 60)
            read = club_read(club_text(club))
            self.assertTrue(read == club and club == read)
            self.assertEqual(told_by(read), told_by(club))

    def test_the_same_asked_again(self):
        chance = Random(66)
        for _ in range(30):
            club = drawn_club(chance, 40)
            first = repr(told_by(club))
            for _ in range(2):
                self.assertEqual(repr(told_by(club)), first)


if __name__ == "__main__":
    unittest.main()

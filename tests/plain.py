"""A purse, a club and a reader of texts done plainly: the deeds that stand are kept, and each answer is made anew."""

import re
from itertools import groupby

from helper import row_behind
from tenturns import errors

FIGURES = "(?:0|[1-9][0-9]{0,2})"
LESSON = re.compile(f"lesson ({FIGURES}) ({FIGURES}) ({FIGURES})")
LEAVE = re.compile(f"({FIGURES}) leave ([0-9])")
WISH = re.compile(f"({FIGURES}) wish ([0-9]+)")
CARD = re.compile(f"card ([0-9]) ({FIGURES}) ({FIGURES}) ({FIGURES})")


def whole(thing, least, most):
    return type(thing) is int and least <= thing <= most


def good_card(first, last, turns):
    return whole(first, 0, 59) and whole(last, 0, 59) and first <= last and whole(turns, 1, 10)


def good_lesson(day, places, late):
    return whole(day, 0, 59) and whole(places, 1, 6) and whole(late, 0, 100)


def good_party(thing):
    if type(thing) is not tuple or not 1 <= len(thing) <= 3 or not all(whole(one, 0, 9) for one in thing):
        return False
    return list(thing) == sorted(set(thing))


def good_book(lesson, book):
    return len(book) <= 24 and list(book) == sorted(set(book)) and row_behind(lesson, book) is not None


def first_refused(*pairs):
    """Raises the first error whose condition does not hold."""
    for holds, error in pairs:
        if not holds:
            raise error("plainly")


def taken_plainly(cards, days):
    left = [turns for _, _, turns in cards]
    taking = []
    for day in days:
        fit = [k for k in range(len(cards)) if left[k] and cards[k][0] <= day <= cards[k][1]]
        best = min(fit, key=lambda k: cards[k][1], default=None)
        if best is not None:
            left[best] -= 1
        taking.append(best)
    return tuple(taking)


class PlainPurse:
    def __init__(self):
        self.deeds = []

    def cards(self):
        return tuple(deed[1:] for deed in self.deeds if deed[0] == "buy")

    def days(self):
        days = []
        for deed in self.deeds:
            if deed[0] == "come":
                days.extend([deed[1]] * deed[2])
            elif deed[0] == "miss":
                days.remove(deed[1])
        return tuple(sorted(days))

    def buy(self, first, last, turns=10):
        number = len(self.cards())
        first_refused((good_card(first, last, turns), errors.NoCard), (number < 8, errors.TooMany))
        self.deeds.append(("buy", first, last, turns))
        return number

    def come(self, day, many=1):
        first_refused((whole(day, 0, 59), errors.NoDay), (whole(many, 1, 24), errors.NoNumber))
        first_refused((len(self.days()) + many <= 24, errors.TooMany))
        self.deeds.append(("come", day, many))

    def miss(self, day):
        first_refused((whole(day, 0, 59), errors.NoDay), (day in self.days(), errors.Gone))
        self.deeds.append(("miss", day))

    def undo(self):
        first_refused((self.deeds, errors.NoDeed))
        self.deeds.pop()

    def taken(self):
        return taken_plainly(self.cards(), self.days())

    def lost(self):
        return self.taken().count(None)

    def left(self):
        return [card[2] - self.taken().count(number) for number, card in enumerate(self.cards())]


class PlainClub:
    def __init__(self):
        self.deeds = []

    def lessons(self):
        return [deed[1:] for deed in self.deeds if deed[0] == "lesson"]

    def off(self, lesson):
        return ("off", lesson) in self.deeds

    def book(self, lesson):
        return tuple(sorted(deed[2] for deed in self.deeds if deed[:2] == ("book", lesson)))

    def cards(self, person):
        return tuple(deed[2:] for deed in self.deeds if deed[:2] == ("card", person))

    def number_holds(self, lesson):
        return whole(lesson, 0, len(self.lessons()) - 1), errors.NoLesson

    def lesson(self, day, places=4, late=24):
        number = len(self.lessons())
        first_refused((good_lesson(day, places, late), errors.NoLesson), (number < 8, errors.TooMany))
        self.deeds.append(("lesson", day, places, late))
        return number

    def card(self, person, first, last, turns=10):
        first_refused((whole(person, 0, 9), errors.NoPerson), (good_card(first, last, turns), errors.NoCard))
        first_refused((len(self.cards(person)) < 8, errors.TooMany))
        self.deeds.append(("card", person, first, last, turns))
        return len(self.cards(person))

    def wish(self, lesson, party, hour=0):
        first_refused(self.number_holds(lesson), (good_party(party), errors.NoParty))
        self.tell(lesson, hour, "wish", party)

    def leave(self, lesson, person, hour=0):
        first_refused(self.number_holds(lesson), (whole(person, 0, 9), errors.NoPerson))
        self.tell(lesson, hour, "leave", person)

    def tell(self, lesson, hour, word, who):
        first_refused((whole(hour, 0, 99), errors.NoHour), (not self.off(lesson), errors.Off))
        book = self.book(lesson)
        first_refused(((hour, word, who) not in book, errors.There), (len(book) < 24, errors.TooMany))
        more = sorted([*book, (hour, word, who)])
        for at in range(25):
            if row_behind(self.lessons()[lesson], more[:at]) is None:
                raise errors.NotDone(at - 1)
        self.deeds.append(("book", lesson, (hour, word, who)))

    def call_off(self, lesson):
        first_refused(self.number_holds(lesson))
        first_refused((not self.off(lesson), errors.Off))
        self.deeds.append(("off", lesson))

    def undo(self):
        first_refused((self.deeds, errors.NoDeed))
        self.deeds.pop()

    def standing(self, lesson, hour=99):
        first_refused(self.number_holds(lesson), (whole(hour, 0, 99), errors.NoHour))
        return row_behind(self.lessons()[lesson], [deed for deed in self.book(lesson) if deed[0] <= hour]).standing()

    def comings(self, person):
        first_refused((whole(person, 0, 9), errors.NoPerson))
        days = []
        for number, lesson in enumerate(self.lessons()):
            inside, _, lost = row_behind(lesson, self.book(number)).standing()
            if person in inside + lost and not self.off(number):
                days.append(lesson[0])
        return tuple(sorted(days))

    def taken(self, person):
        comings = self.comings(person)
        return taken_plainly(self.cards(person), comings)

    def lost(self, person):
        return self.taken(person).count(None)

    def losers(self):
        return [(person, self.lost(person)) for person in range(10) if self.lost(person)]

    def __repr__(self):
        off = sum(self.off(number) for number in range(len(self.lessons())))
        return f"Club({len(self.lessons())}, {off}, {sum(deed[0] == 'card' for deed in self.deeds)})"

    def __str__(self):
        lines = []
        for number, lesson in enumerate(self.lessons()):
            lines.append(" ".join(map(str, ("lesson", *lesson))))
            for hour, word, who in self.book(number):
                lines.append(f"{hour} {word} " + ("".join(map(str, who)) if word == "wish" else str(who)))
            lines.extend(["off"] * self.off(number))
        for person in range(10):
            lines.extend(" ".join(map(str, ("card", person, *card))) for card in self.cards(person))
        return "".join(line + "\n" for line in lines)


def numbers_of(match):
    return tuple(int(figures) for figures in match.groups())


def writes_a_club(text):
    """Whether a text is some club's text: its lines by their patterns, in their order, and what they say."""
    if not isinstance(text, str) or (text and not text.endswith("\n")):
        return False
    lines = text.split("\n")[:-1]
    cards = [line for line in lines if line.startswith("card")]
    rest = lines[:len(lines) - len(cards)]
    if lines[len(rest):] != cards or not write_cards(cards):
        return False
    heads = [at for at, line in enumerate(rest) if LESSON.fullmatch(line)]
    if len(heads) > 8 or (rest and heads[:1] != [0]):
        return False
    return all(write_a_lesson(rest[at:end]) for at, end in zip(heads, heads[1:] + [len(rest)]))


def write_cards(lines):
    matches = [CARD.fullmatch(line) for line in lines]
    if None in matches:
        return False
    rows = [numbers_of(match) for match in matches]
    persons = [row[0] for row in rows]
    if persons != sorted(persons) or not all(good_card(*row[1:]) for row in rows):
        return False
    return all(len(list(group)) <= 8 for _, group in groupby(persons))


def write_a_lesson(lines):
    lesson = numbers_of(LESSON.fullmatch(lines[0]))
    deeds = lines[1:-1] if lines[-1] == "off" else lines[1:]
    book = []
    for line in deeds:
        if match := LEAVE.fullmatch(line):
            book.append((int(match[1]), "leave", int(match[2])))
        elif match := WISH.fullmatch(line):
            book.append((int(match[1]), "wish", tuple(map(int, match[2]))))
        else:
            return False
    if not all(hour <= 99 and (word == "leave" or good_party(who)) for hour, word, who in book):
        return False
    return good_lesson(*lesson) and good_book(lesson, book)

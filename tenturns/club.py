"""A club: the lessons it gives, their books, which of them are called off, and the cards of persons."""

from tenturns.cards import MOST_CARDS, is_card, lost, taken_by_rule
from tenturns.errors import NoCard, NoDeed, NoHour, NoLesson, NoParty, NoPerson, NotDone, Off, There, TooMany
from tenturns.kinds import is_hour, is_person, is_whole
from tenturns.rows import MOST_DEEDS, at_last, first_wrong, is_lesson, is_party, standing_by

MOST_LESSONS = 8
PERSONS = 10


class Club:
    """Lessons and cards, told deed by deed; the deeds that stand can be undone, the last one first."""

    def __init__(self):
        # By number each lesson as (lesson, book, whether it is called off), and by person the cards.
        # Tuples are never changed in place, so what stood ahead of a deed can be kept, and shared with a twin.
        self._given = ()
        self._cards = ((),) * PERSONS
        self._before = []

    def lesson(self, day, places=4, late=24):
        """A lesson is given; told is its number."""
        lesson = (day, places, late)
        if not is_lesson(lesson):
            raise NoLesson("a lesson is a day, places from 1 to 6 and late from 0 to 100")
        if len(self._given) == MOST_LESSONS:
            raise TooMany("there are eight lessons already")
        self._put(self._given + ((lesson, (), False),), self._cards)
        return len(self._given) - 1

    def card(self, person, first, last, turns=10):
        """A card more of a person; told is how many the person has then."""
        _check_person(person)
        card = (first, last, turns)
        if not is_card(card):
            raise NoCard("a card is a first day, a last day not ahead of it, and turns from 1 to 10")
        cards = self._cards[person]
        if len(cards) == MOST_CARDS:
            raise TooMany("the person has eight cards already")
        self._put(self._given, _with(self._cards, person, cards + (card,)))
        return len(cards) + 1

    def wish(self, lesson, party, hour=0):
        """Tells a deed of the lesson's book: a party wishes to come."""
        self._check_number(lesson)
        if not is_party(party):
            raise NoParty("a party is a rising tuple of one to three persons")
        _check_hour(hour)
        self._tell(lesson, (hour, "wish", party))

    def leave(self, lesson, person, hour=0):
        """Tells a deed of the lesson's book: a person leaves."""
        self._check_number(lesson)
        _check_person(person)
        _check_hour(hour)
        self._tell(lesson, (hour, "leave", person))

    def call_off(self, lesson):
        """The lesson takes no turn from then on."""
        self._check_number(lesson)
        given, book, is_off = self._given[lesson]
        if is_off:
            raise Off("the lesson is called off already")
        self._put(_with(self._given, lesson, (given, book, True)), self._cards)

    def undo(self):
        """The last deed that stands is undone."""
        if len(self._before) == 0:
            raise NoDeed("no deed stands")
        self._given, self._cards = self._before.pop()

    def standing(self, lesson, hour=99):
        """The lesson's standing behind all deeds of that hour and of hours ahead of it."""
        self._check_number(lesson)
        given, book, _ = self._given[lesson]
        return standing_by(given, book, hour)

    def comings(self, person):
        """The days, in order, of all lessons not called off to which a person comes at last."""
        _check_person(person)
        held = [(given, book) for given, book, is_off in self._given if not is_off]
        return tuple(sorted([given[0] for given, book in held if person in at_last(given, book)]))

    def taken(self, person):
        """The taking by rule of a person's comings off the person's cards."""
        comings = self.comings(person)
        return taken_by_rule(self._cards[person], comings)

    def lost(self, person):
        """How many of a person's comings are lost."""
        comings = self.comings(person)
        return lost(self._cards[person], comings)

    def losers(self):
        """The rising list of (person, how many) of all who lose some."""
        counted = [(person, self.lost(person)) for person in range(PERSONS)]
        return [(person, many) for person, many in counted if many > 0]

    def twin(self):
        """Another club, equal to this one, with nothing to undo."""
        other = Club()
        other._given = self._given
        other._cards = self._cards
        return other

    def __len__(self):
        return len(self._given)

    def __eq__(self, other):
        return isinstance(other, Club) and self._given == other._given and self._cards == other._cards

    def __repr__(self):
        return f"Club({len(self._given)}, {_count_off(self._given)}, {_count_cards(self._cards)})"

    def __str__(self):
        return "".join(_lesson_lines(self._given) + _card_lines(self._cards))

    def _check_number(self, lesson):
        """Refuses what is no number of a lesson given."""
        if not is_whole(lesson, 0, len(self._given) - 1):
            raise NoLesson("a lesson's number is a whole number from 0, of a lesson that is given")

    def _tell(self, lesson, deed):
        """Puts a deed into a lesson's book, where it can stand there."""
        given, book, is_off = self._given[lesson]
        if is_off:
            raise Off("the lesson is called off")
        if deed in book:
            raise There("the deed stands already")
        if len(book) == MOST_DEEDS:
            raise TooMany("there are 24 deeds already")
        more = tuple(sorted([*book, deed]))
        # A deed that is told late may take from a later one what it stands on: the whole book is looked at.
        wrong = first_wrong(given, more)
        if wrong is not None:
            raise NotDone(wrong)
        self._put(_with(self._given, lesson, (given, more, False)), self._cards)

    def _put(self, given, cards):
        """Puts in what stands behind a deed, and keeps what stood ahead of it."""
        self._before.append((self._given, self._cards))
        self._given = given
        self._cards = cards


def _check_person(person):
    """Refuses what is no person."""
    if not is_person(person):
        raise NoPerson("a person is a whole number from 0 to 9")


def _check_hour(hour):
    """Refuses what is no hour."""
    if not is_hour(hour):
        raise NoHour("an hour is a whole number from 0 to 99")


def _with(rows, at, row):
    """A tuple of rows like the one given, with another row at a place."""
    return rows[:at] + (row,) + rows[at + 1:]


def _count_off(given):
    """How many lessons are called off."""
    return len([lesson for lesson, book, is_off in given if is_off])


def _count_cards(cards):
    """How many cards all persons have."""
    return sum([len(own) for own in cards])


def _lesson_lines(given):
    """The lines of all lessons: each one's own, those of its book, and `off` where it is called off."""
    lines = []
    for (day, places, late), book, is_off in given:
        lines.append(f"lesson {day} {places} {late}\n")
        lines.extend([_deed_line(deed) for deed in book])
        if is_off:
            lines.append("off\n")
    return lines


def _deed_line(deed):
    """The line of a deed."""
    hour, word, who = deed
    persons = who if word == "wish" else (who,)
    figures = "".join([str(person) for person in persons])
    return f"{hour} {word} {figures}\n"


def _card_lines(cards):
    """The lines of all cards, by person and number."""
    return [
        f"card {person} {first} {last} {turns}\n"
        for person, own in enumerate(cards)
        for first, last, turns in own
    ]

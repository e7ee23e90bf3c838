"""A purse: cards and comings, told deed by deed."""

from tenturns.cards import MOST_CARDS, MOST_COMINGS, is_card, lost, paper_of, room_on, taken_by_rule
from tenturns.errors import Gone, NoCard, NoDay, NoDeed, NoNumber, TooMany
from tenturns.kinds import is_day, is_whole


class Purse:
    """Cards and comings; the deeds that stand can be undone, the last one first."""

    def __init__(self):
        # Tuples are never changed in place, so what stood ahead of a deed can be kept and put back as it was.
        self._cards = ()
        self._days = ()
        self._before = []

    def buy(self, first, last, turns=10):
        """One card more; told is its number."""
        card = (first, last, turns)
        if not is_card(card):
            raise NoCard("a card is a first day, a last day not ahead of it, and turns from 1 to 10")
        if len(self._cards) == MOST_CARDS:
            raise TooMany("there are eight cards already")
        self._put(self._cards + (card,), self._days)
        return len(self._cards) - 1

    def come(self, day, many=1):
        """So many comings more on that day."""
        _check_day(day)
        if not is_whole(many, 1, MOST_COMINGS):
            raise NoNumber("how many come is a whole number from 1 to 24")
        if len(self._days) + many > MOST_COMINGS:
            raise TooMany("there would be more than 24 comings")
        self._put(self._cards, tuple(sorted(self._days + (day,) * many)))

    def miss(self, day):
        """One coming on that day is out."""
        _check_day(day)
        if day not in self._days:
            raise Gone("there is no coming on that day")
        at = self._days.index(day)
        self._put(self._cards, self._days[:at] + self._days[at + 1:])

    def undo(self):
        """The last deed that stands is undone."""
        if len(self._before) == 0:
            raise NoDeed("no deed stands")
        self._cards, self._days = self._before.pop()

    def cards(self):
        """The cards, by number."""
        return self._cards

    def days(self):
        """The comings."""
        return self._days

    def taken(self):
        """The taking by rule."""
        return taken_by_rule(self._cards, self._days)

    def lost(self):
        """How many comings are lost."""
        return lost(self._cards, self._days)

    def paper(self):
        """A paper that shows as many as are lost."""
        return paper_of(self._cards, self._days)

    def room(self, day):
        """How many comings more on that day would be taken without any more being lost."""
        return room_on(self._cards, self._days, day)

    def left(self):
        """How many turns are left on each card by the taking by rule."""
        taking = self.taken()
        return [card[2] - taking.count(number) for number, card in enumerate(self._cards)]

    def __len__(self):
        return len(self._days)

    def __eq__(self, other):
        return isinstance(other, Purse) and self._cards == other._cards and self._days == other._days

    def __repr__(self):
        return f"Purse({len(self._cards)}, {len(self._days)}, {self.lost()})"

    def _put(self, cards, days):
        """Puts in what stands behind a deed, and keeps what stood ahead of it."""
        self._before.append((self._cards, self._days))
        self._cards = cards
        self._days = days


def _check_day(day):
    """Refuses what is no day."""
    if not is_day(day):
        raise NoDay("a day is a whole number from 0 to 59")

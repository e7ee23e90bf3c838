"""Cards: off which card each coming is taken, how many are lost, and a paper that shows there are no fewer."""

from tenturns.errors import NoCards, NoComings, NoDay
from tenturns.kinds import are_rising, is_day, is_triple, is_whole

MOST_CARDS = 8
MOST_COMINGS = 24
MOST_TURNS = 10


def is_card(thing):
    """Whether a thing is a card: (first, last, turns)."""
    if not is_triple(thing):
        return False
    first, last, turns = thing
    return is_day(first) and is_day(last) and first <= last and is_whole(turns, 1, MOST_TURNS)


def are_cards(thing):
    """Whether a thing is cards: a tuple of at most eight."""
    return isinstance(thing, tuple) and len(thing) <= MOST_CARDS and all([is_card(card) for card in thing])


def are_comings(thing):
    """Whether a thing is comings: a tuple of at most 24 days, none ahead of an earlier one in it."""
    if not isinstance(thing, tuple) or len(thing) > MOST_COMINGS:
        return False
    return all([is_day(day) for day in thing]) and list(thing) == sorted(thing)


def is_taking(cards, comings, thing):
    """Whether a thing is a taking of the comings off the cards."""
    _check(cards, comings)
    if not isinstance(thing, tuple) or len(thing) != len(comings):
        return False
    if not all([_can_take(cards, number, day) for number, day in zip(thing, comings)]):
        return False
    return all([thing.count(number) <= card[2] for number, card in enumerate(cards)])


def taken_by_rule(cards, comings):
    """The taking by rule: each coming, in order, off the card that ends first; None where there is none."""
    _check(cards, comings)
    return _taken(cards, comings)


def lost(cards, comings):
    """How many comings are lost, at the least."""
    _check(cards, comings)
    return len(_short_days(cards, comings))


def shown_by(cards, comings, thing):
    """How many lost comings a thing shows; None where it is no paper."""
    _check(cards, comings)
    if not are_rising(thing, is_day):
        return None
    asked = [day for day in comings if day in thing]
    turns = [card[2] for card in cards if _is_valid_on_one(card, thing)]
    return max(0, len(asked) - sum(turns))


def paper_of(cards, comings):
    """A paper that shows as many as are lost."""
    _check(cards, comings)
    days = []
    more = _days_behind(cards, comings, days)
    # At the end all cards valid on these days are used up on these days: were one not, a lost coming could be taken.
    while more != days:
        days = more
        more = _days_behind(cards, comings, days)
    return tuple(days)


def room_on(cards, comings, day):
    """How many comings more on that day would be taken without any more being lost."""
    _check(cards, comings)
    if not is_day(day):
        raise NoDay("a day is a whole number from 0 to 59")
    fewest = len(_short_days(cards, comings))
    room = 0
    more = sorted([*comings, day])
    while len(_short_days(cards, more)) == fewest:
        room += 1
        more = sorted([*more, day])
    return room


def first_short(cards, comings):
    """The first day of whose comings, and of all ahead of it, some are lost; None where none are."""
    _check(cards, comings)
    # The rule does not look ahead: it takes the comings up to a day alike, whatever comes behind them.
    short = _short_days(cards, comings)
    return short[0] if short else None


def _check(cards, comings):
    """Refuses what is no cards, then what is no comings."""
    if not are_cards(cards):
        raise NoCards("cards are a tuple of at most eight cards")
    if not are_comings(comings):
        raise NoComings("comings are a tuple of at most 24 days, none ahead of an earlier one")


def _is_valid(card, day):
    """Whether a card is valid on a day."""
    return card[0] <= day <= card[1]


def _is_valid_on_one(card, days):
    """Whether a card is valid on one of the days or more."""
    return any([_is_valid(card, day) for day in days])


def _can_take(cards, number, day):
    """Whether a coming on a day may be taken off what is told as a card's number, or as None off none."""
    if number is None:
        return True
    return is_whole(number, 0, len(cards) - 1) and _is_valid(cards[number], day)


def _taken(cards, comings):
    """The taking by rule, of more than 24 comings, too."""
    left = [card[2] for card in cards]
    taking = []
    for day in comings:
        number = _number_off(cards, left, day)
        if number is not None:
            left[number] -= 1
        taking.append(number)
    return tuple(taking)


def _number_off(cards, left, day):
    """The number of the card that a coming is taken off by rule, by the turns left on each; None for none."""
    fit = [(card[1], number) for number, card in enumerate(cards) if left[number] > 0 and _is_valid(card, day)]
    return min(fit)[1] if fit else None


def _short_days(cards, comings):
    """The days of the comings that the taking by rule loses, in order."""
    return [day for day, number in zip(comings, _taken(cards, comings)) if number is None]


def _days_behind(cards, comings, days):
    """The days of lost comings, and of those taken off cards that are valid on one of the days given."""
    sought = [number for number, card in enumerate(cards) if _is_valid_on_one(card, days)]
    taking = _taken(cards, comings)
    return sorted({day for day, number in zip(comings, taking) if number is None or number in sought})

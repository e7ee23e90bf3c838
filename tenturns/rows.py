"""A lesson's row: who is inside, who waits and who has lost, behind each deed of its book."""

from tenturns.errors import NoBook, NoHour, NoLesson
from tenturns.kinds import are_rising, is_day, is_hour, is_person, is_triple, is_whole

BEGINS_AT = 100
MOST_DEEDS = 24
MOST_FRIENDS = 3


def is_lesson(thing):
    """Whether a thing is a lesson: (day, places, late)."""
    if not is_triple(thing):
        return False
    day, places, late = thing
    return is_day(day) and is_whole(places, 1, 6) and is_whole(late, 0, 100)


def is_party(thing):
    """Whether a thing is a party: a rising tuple of one to three persons."""
    return are_rising(thing, is_person) and 1 <= len(thing) <= MOST_FRIENDS


def is_deed(thing):
    """Whether a thing is a deed: (hour, "leave", person) or (hour, "wish", party)."""
    if not is_triple(thing):
        return False
    hour, word, who = thing
    if word == "leave":
        return is_hour(hour) and is_person(who)
    return word == "wish" and is_hour(hour) and is_party(who)


def is_book(thing):
    """Whether a thing is a book: a rising tuple of at most 24 deeds."""
    return are_rising(thing, is_deed) and len(thing) <= MOST_DEEDS


def first_wrong(lesson, book):
    """The place, from 0, of the first deed that cannot be done; None where all can."""
    _check(lesson, book)
    done = len(_steps(lesson, book)) - 1
    return None if done == len(book) else done


def standing_by(lesson, book, hour=99):
    """The standing behind all deeds of that hour and of hours ahead of it."""
    steps = _checked_steps(lesson, book)
    if not is_hour(hour):
        raise NoHour("an hour is a whole number from 0 to 99")
    done = len([deed for deed in book if deed[0] <= hour])
    return steps[done][0]


def entries(lesson, book):
    """The list of (hour, party) of all parties that came in, in the order in which they did."""
    steps = _checked_steps(lesson, book)
    return [(deed[0], party) for deed, (_, came) in zip(book, steps[1:]) for party in came]


def at_last(lesson, book):
    """The rising tuple of those who come: who is inside or has lost behind all deeds."""
    inside, _, lost = _checked_steps(lesson, book)[-1][0]
    return tuple(sorted(inside + lost))


def diary_of(lesson, book):
    """The list of standings, first that ahead of all deeds, then that behind each one."""
    return [standing for standing, _ in _checked_steps(lesson, book)]


def is_diary(lesson, book, thing):
    """Whether a thing is the diary of the lesson and the book."""
    diary = diary_of(lesson, book)
    # True == 1 in Python, so to be equal is not enough: each part must be a standing, too.
    return isinstance(thing, list) and all([_is_standing(part) for part in thing]) and thing == diary


def _is_standing(thing):
    """Whether a thing is made as a standing is: (inside, waiting, lost)."""
    if not is_triple(thing):
        return False
    inside, waiting, lost = thing
    if not isinstance(waiting, tuple) or not all([is_party(party) for party in waiting]):
        return False
    return are_rising(inside, is_person) and are_rising(lost, is_person)


def _check(lesson, book):
    """Refuses what is no lesson, then what is no book."""
    if not is_lesson(lesson):
        raise NoLesson("a lesson is a tuple of a day, places from 1 to 6 and late from 0 to 100")
    if not is_book(book):
        raise NoBook("a book is a rising tuple of at most 24 deeds")


def _checked_steps(lesson, book):
    """The steps of a book in which all deeds can be done; any other one is refused."""
    _check(lesson, book)
    steps = _steps(lesson, book)
    if len(steps) <= len(book):
        raise NoBook(f"the deed at {len(steps) - 1} of this book cannot be done")
    return steps


def _steps(lesson, book):
    """Ahead of all deeds and behind each one, up to the first that cannot be done: (standing, who came in by it)."""
    steps = [(((), (), ()), ())]
    for deed in book:
        step = _step(lesson, steps[-1][0], deed)
        if step is None:
            return steps
        steps.append(step)
    return steps


def _step(lesson, standing, deed):
    """The standing behind a deed and the parties that come in by it; None where it cannot be done."""
    hour, word, who = deed
    if word == "wish":
        return _wished(lesson, standing, who)
    return _left(lesson, standing, hour, who)


def _wished(lesson, standing, party):
    """The step by which a party wishes to come; None where one of it stands in the row already."""
    inside, waiting, lost = standing
    known = inside + lost + tuple([person for other in waiting for person in other])
    if any([person in known for person in party]):
        return None
    # None of those who wait would fit, so of all with the new party behind them only it can come in.
    return _let_in(lesson, (inside, waiting + (party,), lost))


def _left(lesson, standing, hour, person):
    """The step by which a person leaves; None where the person neither is inside nor waits."""
    inside, waiting, lost = standing
    if person in inside:
        others = tuple([other for other in inside if other != person])
        if hour <= BEGINS_AT - lesson[2]:
            return _let_in(lesson, (others, waiting, lost))
        return (others, waiting, tuple(sorted(lost + (person,)))), ()
    still = tuple([party for party in waiting if person not in party])
    if still == waiting:
        return None
    return (inside, still, lost), ()


def _let_in(lesson, standing):
    """The step by which, from the first to the last, each waiting party that then fits comes in."""
    inside, waiting, lost = standing
    came = []
    still = []
    for party in waiting:
        if len(party) <= lesson[1] - len(inside) - len(lost):
            inside = tuple(sorted(inside + party))
            came.append(party)
        else:
            still.append(party)
    return (inside, tuple(still), lost), tuple(came)

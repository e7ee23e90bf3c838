"""Deeds drawn by chance, and what a club answers to them."""

from tenturns.club import Club
from tenturns.errors import ClubError


def answer(thing, word, handed):
    """What a deed tells, or what it is refused with: the class, and the place where it has one."""
    try:
        return getattr(thing, word)(*handed)
    except ClubError as refused:
        return type(refused).__name__, getattr(refused, "at", None)


def drawn_party(chance):
    many = chance.choice((1, 1, 1, 2, 2, 3))
    return tuple(sorted(chance.sample(range(10), many)))


def drawn_deed(chance, club):
    """A deed of a club, most often one that can be done."""
    number = chance.randrange(max(1, len(club)))
    hour = chance.choice((0, 1, 5, 20, 40, 60, 70, 80, 99, chance.randrange(100)))
    day = chance.choice((0, 3, 4, 7, 9, 30, 59))
    lesson = ("lesson", day, chance.randint(1, 6), chance.choice((0, 24, 50, 100)))
    kinds = [
        lesson, ("lesson", day), *[("card", chance.randrange(10), day, chance.choice((7, 9, 59)), chance.randint(1, 3))] * 3,
        *[("wish", number, drawn_party(chance), hour)] * 10, *[("wish", number, drawn_party(chance))] * 3,
        *[("leave", number, chance.randrange(10), hour)] * 8, ("call_off", number), ("undo",), ("undo",),
    ]
    return chance.choice(kinds) if len(club) > 0 or chance.random() < 0.3 else lesson


def bad_deed(chance, club):
    """A deed of which one thing or several are wrong."""
    deed = list(drawn_deed(chance, club))
    for at in range(1, len(deed)):
        if chance.random() < 0.4:
            deed[at] = chance.choice((True, None, -1, 60, 100, 10, 8, "0", (), (1, 1), (2, 1), (0, 1, 2, 3), [], {}, 0))
    return tuple(deed)


def drawn_club(chance, deeds):
    """A club of so many deeds, some of which were refused."""
    club = Club()
    answer(club, "lesson", (chance.randrange(60), chance.randint(1, 6), 50))
    for _ in range(deeds - 1):
        word, *handed = drawn_deed(chance, club)
        answer(club, word, handed)
    return club

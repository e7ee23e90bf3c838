"""Lines: a club as a text, and the club that a text writes."""

from tenturns.club import Club
from tenturns.errors import ClubError, NoText

MOST_FIGURES = 3


def club_text(club):
    """The text of a club."""
    return str(club)


def club_read(text):
    """The club that a text writes, with nothing to undo."""
    if not isinstance(text, str):
        raise NoText("only a text writes a club")
    club = Club()
    try:
        _tell_lines(club, text.split("\n")[:-1])
    except ClubError:
        raise NoText("a line of the text says nothing that can be told of the club so far") from None
    # The lines were read one by one and loosely; their order, and each sign, must be as the club itself writes them.
    if club_text(club) != text:
        raise NoText("the text is not written as the text of its club is")
    return club.twin()


def _tell_lines(club, lines):
    """Tells a club what lines say, one behind the other."""
    for line in lines:
        _tell_words(club, line.split(" "))


def _tell_words(club, words):
    """Tells a club what the words of one line say, a deed or `off` of the lesson told last."""
    number = len(club) - 1
    if len(words) == 4 and words[0] == "lesson":
        day, places, late = [_number(word) for word in words[1:]]
        club.lesson(day, places, late)
    elif len(words) == 5 and words[0] == "card":
        person, first, last, turns = [_number(word) for word in words[1:]]
        club.card(person, first, last, turns)
    elif len(words) == 3 and words[1] == "wish":
        club.wish(number, tuple([_number(figure) for figure in words[2]]), _number(words[0]))
    elif len(words) == 3 and words[1] == "leave":
        club.leave(number, _number(words[2]), _number(words[0]))
    elif words == ["off"]:
        club.call_off(number)
    else:
        raise NoText("a line is a lesson, a deed, off or a card")


def _number(word):
    """The number that a word writes in figures."""
    # No number of a club has more figures; and what else Python takes for a figure is none here.
    if not word.isascii() or not word.isdecimal() or len(word) > MOST_FIGURES:
        raise NoText("a number is written in the figures from 0 to 9")
    return int(word)

"""The refusals: each stands straight under ClubError, and under no other one."""


class ClubError(ValueError):
    """Any refusal."""


class NoLesson(ClubError):
    """What was handed in is no lesson."""


class NoBook(ClubError):
    """What was handed in is no book, or has a deed that cannot be done."""


class NoParty(ClubError):
    """What was handed in is no party."""


class NoPerson(ClubError):
    """What was handed in is no person."""


class NoDay(ClubError):
    """What was handed in is no day."""


class NoHour(ClubError):
    """What was handed in is no hour."""


class NoCard(ClubError):
    """What was handed in is no card."""


class NoCards(ClubError):
    """What was handed in are no cards."""


class NoComings(ClubError):
    """What was handed in are no comings."""


class NoNumber(ClubError):
    """What was handed in is no number as it must be."""


class Gone(ClubError):
    """There is no coming on that day."""


class Off(ClubError):
    """The lesson is called off."""


class There(ClubError):
    """The deed stands already."""


class TooMany(ClubError):
    """There would be more than may be."""


class NoDeed(ClubError):
    """No deed stands that could be undone."""


class NoText(ClubError):
    """What was handed in writes no club."""


class NotDone(ClubError):
    """A deed of a book cannot be done: `at` tells its place, from 0."""

    def __init__(self, at):
        ClubError.__init__(self, f"the deed at {at} cannot be done")
        self.at = at

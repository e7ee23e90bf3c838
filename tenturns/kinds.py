"""What several modules ask of a thing of whatever kind: is it a whole number, a day, a person, an hour."""


def is_whole(thing, least, most):
    """Whether a thing is a whole number, no truth, from least to most."""
    return isinstance(thing, int) and not isinstance(thing, bool) and least <= thing <= most


def is_person(thing):
    """Whether a thing is a person."""
    return is_whole(thing, 0, 9)


def is_day(thing):
    """Whether a thing is a day."""
    return is_whole(thing, 0, 59)


def is_hour(thing):
    """Whether a thing is an hour."""
    return is_whole(thing, 0, 99)


def is_triple(thing):
    """Whether a thing is a tuple of three."""
    return isinstance(thing, tuple) and len(thing) == 3


def are_rising(thing, is_one):
    """Whether a thing is a rising tuple of such as the function is_one tells; Python must be able to compare these."""
    if not isinstance(thing, tuple) or not all([is_one(one) for one in thing]):
        return False
    return all([ahead < behind for ahead, behind in zip(thing, thing[1:])])

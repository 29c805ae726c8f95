"""What several parts of the program ask of the things that are handed in."""

from liarclocks.errors import BadNumber, BadWorths

FARTHEST = 1000000
MOST_FEW = 5
MOST_WORTHS = 40


def is_whole(thing):
    """Whether a thing is a whole number, which True and False are not."""
    return isinstance(thing, int) and not isinstance(thing, bool)


def is_within(thing, least, most):
    """Whether a thing is a whole number from the least to the most."""
    return is_whole(thing) and least <= thing <= most


def is_number(thing):
    """Whether a thing is a number, as the document bounds them."""
    return is_within(thing, -FARTHEST, FARTHEST)


def is_pair(thing):
    """Whether a thing is a tuple of two things."""
    return isinstance(thing, tuple) and len(thing) == 2


def is_number_pair(thing):
    """Whether a thing is a tuple of two numbers."""
    return is_pair(thing) and is_number(thing[0]) and is_number(thing[1])


def is_fit_list(things):
    """Whether a thing is a list, neither empty nor too long."""
    return isinstance(things, list) and 1 <= len(things) <= MOST_WORTHS


def check_within(thing, least, most):
    """Refuse what is no whole number from the least to the most."""
    if not is_within(thing, least, most):
        raise BadNumber(f"not a whole number from {least} to {most}")


def check_few(few):
    """Refuse what is no few."""
    check_within(few, 0, MOST_FEW)


def check_worths(worths):
    """Refuse what is no list of 1 to 40 numbers."""
    if not is_fit_list(worths) or not all([is_number(worth) for worth in worths]):
        raise BadWorths("not a list of 1 to 40 numbers")


def check_some_left(many, lost):
    """Refuse to lose so much at both ends of so many, if nothing would be left."""
    if many <= 2 * lost:
        raise BadWorths("nothing would be left")

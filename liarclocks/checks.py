"""What several parts of the program ask of the things that are handed in."""

from liarclocks.errors import BadHouses, BadNumber, BadWorths, NoHouse

FARTHEST = 1000000
LAST_BEAT = 100000
MOST_FEW = 5
MOST_HOUSES = 16
MOST_WORTHS = 40


def is_whole(thing):
    """Whether a thing is a whole number, which True and False are not."""
    return isinstance(thing, int) and not isinstance(thing, bool)


def is_within(thing, least, most):
    """Whether a thing is a whole number from the least to the most."""
    return is_whole(thing) and least <= thing <= most


def is_number(thing):
    """Whether a thing is a number, as the document bounds them."""
    return is_within(thing, -FARTHEST, FARTHEST)


def is_pair(thing):
    """Whether a thing is a tuple of two things."""
    return isinstance(thing, tuple) and len(thing) == 2


def is_number_pair(thing):
    """Whether a thing is a tuple of two numbers."""
    return is_pair(thing) and is_number(thing[0]) and is_number(thing[1])


def is_fit_list(things):
    """Whether a thing is a list, neither empty nor too long."""
    return isinstance(things, list) and 1 <= len(things) <= MOST_WORTHS


def is_house(thing, houses):
    """Whether a thing is one of so many houses."""
    return is_within(thing, 0, houses - 1)


def is_rising(numbers):
    """Whether each number is above the one ahead of it."""
    return all([ahead < number for ahead, number in zip(numbers, numbers[1:])])


def check_within(thing, least, most):
    """Refuse what is no whole number from the least to the most."""
    if not is_within(thing, least, most):
        raise BadNumber(f"not a whole number from {least} to {most}")


def check_number(thing):
    """Refuse what is no number, as the document bounds them."""
    check_within(thing, -FARTHEST, FARTHEST)


def check_few(few):
    """Refuse what is no few."""
    check_within(few, 0, MOST_FEW)


def check_beat(beat):
    """Refuse what is no beat."""
    check_within(beat, 0, LAST_BEAT)


def check_houses(houses):
    """Refuse what is no number of houses."""
    check_within(houses, 1, MOST_HOUSES)


def check_some_houses(some, houses, most):
    """Refuse what is no list or tuple of at most so many of the houses, rising, each once."""
    if not isinstance(some, (list, tuple)) or len(some) > most:
        raise BadHouses("not a list or tuple of houses, or too many of them")
    # Things of any kind can't be held against one another, so rising comes behind this.
    if not all([is_house(house, houses) for house in some]) or not is_rising(some):
        raise BadHouses("not houses, rising, each once")


def check_house(house, houses):
    """Refuse what is none of so many houses."""
    if not is_house(house, houses):
        raise NoHouse(house)


def check_honest(house, houses, liars):
    """Refuse what is no house, or a liar."""
    check_house(house, houses)
    if house in liars:
        raise NoHouse(house)


def check_worths(worths):
    """Refuse what is no list of 1 to 40 numbers."""
    if not is_fit_list(worths) or not all([is_number(worth) for worth in worths]):
        raise BadWorths("not a list of 1 to 40 numbers")


def check_some_left(many, lost):
    """Refuse to lose so much at both ends of so many, if nothing would be left."""
    if many <= 2 * lost:
        raise BadWorths("nothing would be left")

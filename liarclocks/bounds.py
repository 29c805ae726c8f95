"""How many houses are enough for how many liars."""

from liarclocks.checks import MOST_FEW, check_few, check_houses

# By what is to be kept, how many houses are needed for each liar, beside one.
FOR_EACH_LIAR = {"between": 2, "nearer": 3, "one word": 3}


def for_each_liar(what):
    """How many houses are needed for each liar; None of what is no such text."""
    return FOR_EACH_LIAR.get(what) if isinstance(what, str) else None


def least_houses(what, *, few):
    """The least number of houses that is enough for few liars; None of what is no such text."""
    check_few(few)
    each = for_each_liar(what)
    return None if each is None else each * few + 1


def most_liars(what, *, houses):
    """The greatest few for which so many houses are enough; None of what is no such text."""
    check_houses(houses)
    each = for_each_liar(what)
    return None if each is None else min(MOST_FEW, (houses - 1) // each)

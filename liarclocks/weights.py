"""Numbers with weights, of which some may be lies."""

from liarclocks.checks import check_some_left, check_within, is_fit_list, is_number, is_pair, is_within
from liarclocks.errors import BadWorths

MOST_WEIGHT = 1000
MOST_LOST = 40000


def is_row(thing):
    """Whether a thing is a pair of a number and its weight."""
    return is_pair(thing) and is_number(thing[0]) and is_within(thing[1], 1, MOST_WEIGHT)


def check_rows(rows):
    """Refuse what is no list of 1 to 40 pairs of a number and its weight."""
    if not is_fit_list(rows) or not all([is_row(row) for row in rows]):
        raise BadWorths("not a list of 1 to 40 pairs of a number and its weight")


def total_weight(rows):
    """The weight of all pairs together."""
    check_rows(rows)
    return sum([weight for number, weight in rows])


def without_first(rows, lost):
    """The pairs in their order, without so much weight of the first ones."""
    left = []
    to_lose = lost
    for number, weight in rows:
        gone = min(weight, to_lose)
        to_lose -= gone
        if gone < weight:
            left.append((number, weight - gone))
    return left


def weighed_left(rows, *, lost):
    """The pairs, rising, without so much weight at both ends."""
    check_within(lost, 0, MOST_LOST)
    check_some_left(total_weight(rows), lost)
    rising = without_first(sorted(rows), lost)
    falling = without_first(rising[::-1], lost)
    return falling[::-1]


def weighed_middle(rows, *, lost):
    """Half of the sum of the first and the last number left, rounded down."""
    left = weighed_left(rows, lost=lost)
    return (left[0][0] + left[-1][0]) // 2


def weighed_median(rows):
    """The least number at which half of all weight, or more, is reached."""
    total = total_weight(rows)
    rising = sorted(rows)
    at = 0
    reached = rising[0][1]
    # The half is not rounded, so twice what is reached is held against all weight.
    while 2 * reached < total:
        at += 1
        reached += rising[at][1]
    return rising[at][0]

"""Numbers of which some may be lies."""

from liarclocks.checks import check_few, check_some_left, check_worths, is_whole


def without_ends(worths, few):
    """The numbers, rising, without the few least and the few greatest, of what needs no look."""
    return sorted(worths)[few:len(worths) - few]


def half_way(left):
    """Half of the sum of the first and the last number, rounded down."""
    return (left[0] + left[-1]) // 2


def how_far(worths):
    """How far the greatest number is from the least, of what needs no look."""
    return max(worths) - min(worths)


def trimmed(worths, *, few):
    """The numbers, rising, without the few least and the few greatest."""
    check_few(few)
    check_worths(worths)
    check_some_left(len(worths), few)
    return without_ends(worths, few)


def middle(worths, *, few):
    """Half of the sum of the least and the greatest number left, rounded down."""
    return half_way(trimmed(worths, few=few))


def mean(worths, *, few):
    """The sum of the numbers left by how many they are, rounded down."""
    left = trimmed(worths, few=few)
    return sum(left) // len(left)


def median(worths):
    """The number in the middle of all, of two the lesser."""
    check_worths(worths)
    return sorted(worths)[(len(worths) - 1) // 2]


def spread(worths):
    """How far the greatest number is from the least."""
    check_worths(worths)
    return how_far(worths)


def is_between(worth, worths):
    """Whether a number is not below the least of a list and not above its greatest."""
    check_worths(worths)
    return is_whole(worth) and min(worths) <= worth <= max(worths)

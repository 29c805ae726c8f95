"""Points of which some may be lies."""

from liarclocks.checks import check_few, is_fit_list, is_number_pair
from liarclocks.errors import BadWorths
from liarclocks.worths import is_between, middle, spread


def check_points(points):
    """Refuse what is no list of 1 to 40 points."""
    if not is_fit_list(points) or not all([is_number_pair(point) for point in points]):
        raise BadWorths("not a list of 1 to 40 points")


def first_numbers(points):
    """The first number of each point."""
    return [point[0] for point in points]


def second_numbers(points):
    """The second number of each point."""
    return [point[1] for point in points]


def box(points):
    """The least and greatest first numbers, and the least and greatest second ones."""
    check_points(points)
    firsts = first_numbers(points)
    seconds = second_numbers(points)
    return ((min(firsts), max(firsts)), (min(seconds), max(seconds)))


def middle_point(points, *, few):
    """The middles of the first numbers and of the second ones."""
    check_few(few)
    check_points(points)
    return (middle(first_numbers(points), few=few), middle(second_numbers(points), few=few))


def in_box(point, points):
    """Whether a point lies in the box, its edge too."""
    check_points(points)
    if not is_number_pair(point):
        return False
    return is_between(point[0], first_numbers(points)) and is_between(point[1], second_numbers(points))


def width(points):
    """How far the box goes, the farther of both ways."""
    check_points(points)
    return max(spread(first_numbers(points)), spread(second_numbers(points)))

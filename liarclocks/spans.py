"""Spans of sensors of which some may be lies."""

from liarclocks.checks import check_few, check_number, is_fit_list, is_number_pair
from liarclocks.errors import BadWorths


def is_span(thing):
    """Whether a thing is a pair of two numbers, the first not above the second."""
    return is_number_pair(thing) and thing[0] <= thing[1]


def check_spans(spans, least):
    """Refuse what is no list of spans, so many at least and up to 40."""
    if not is_fit_list(spans) or len(spans) < least or not all([is_span(span) for span in spans]):
        raise BadWorths(f"not a list of {least} to 40 spans")


def many_with(spans, point):
    """In how many spans a point lies."""
    return len([low for low, high in spans if low <= point <= high])


def have_common(span, other):
    """Whether two spans have a point in common."""
    return span[0] <= other[1] and other[0] <= span[1]


def sensors_off(spans, place):
    """The sensors whose span has no point of a place."""
    return [sensor for sensor, span in enumerate(spans) if not have_common(span, place)]


def fused(spans, *, few):
    """The least and the greatest point that lies in at least all but few spans; None, if there is none."""
    check_few(few)
    check_spans(spans, few + 1)
    enough = len(spans) - few
    # The least such point begins a span, and the greatest one ends a span.
    lows = [low for low, high in spans if many_with(spans, low) >= enough]
    highs = [high for low, high in spans if many_with(spans, high) >= enough]
    if not lows:
        return None
    return (min(lows), max(highs))


def shown_false(spans, *, few):
    """The sensors whose span has no point of the fused one."""
    place = fused(spans, few=few)
    if place is None:
        return []
    return sensors_off(spans, place)


def depth(spans, point):
    """In how many spans a point lies."""
    check_spans(spans, 1)
    check_number(point)
    return many_with(spans, point)


def best_points(spans):
    """The greatest depth of any point, and the least point that has it."""
    check_spans(spans, 1)
    # The least point of the greatest depth begins a span, so no other points are asked.
    depths = [(many_with(spans, low), low) for low, high in spans]
    most = max([many for many, low in depths])
    return (most, min([low for many, low in depths if many == most]))


def fewest_lies(spans):
    """How many spans are not among those of the greatest depth."""
    most, point = best_points(spans)
    return len(spans) - most

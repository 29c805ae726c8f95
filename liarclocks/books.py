"""Sayings that are shown and passed on, so that who said two things is shown a liar."""

from liarclocks.checks import check_house, check_houses, check_some_houses, check_within, is_number, is_pair, is_whole
from liarclocks.errors import BadHouses, BadSaying, NotNow

LAST_PLACE = 99


def is_saying(thing):
    """Whether a thing has the form of a saying."""
    return isinstance(thing, tuple) and len(thing) == 3 and all([is_whole(part) for part in thing])


def is_clash(pair):
    """Whether a thing is a pair of two sayings of one house and place with unlike numbers."""
    if not is_pair(pair) or not is_saying(pair[0]) or not is_saying(pair[1]):
        return False
    return pair[0][:2] == pair[1][:2] and pair[0][2] != pair[1][2]


def pairs_of(rows):
    """All pairs of two rows, the one that stands ahead first."""
    return [(row, other) for at, row in enumerate(rows) for other in rows[at + 1:]]


class Book:
    """What houses say, and what each of them has seen of it."""

    def __init__(self, houses, *, liars=()):
        check_houses(houses)
        check_some_houses(liars, houses, houses)
        self.liars = list(liars)
        self.said = {}
        # What honest houses are bound to, by house and place.
        self.bound = {}
        self.seen = [{} for house in range(houses)]

    def honest(self):
        """The honest houses, rising."""
        return [house for house in range(len(self.seen)) if house not in self.liars]

    def check_is_house(self, house):
        """Refuse what is no house."""
        check_house(house, len(self.seen))

    def say(self, house, place, number):
        """Let a house say a number for a place, and tell the saying."""
        self.check_is_house(house)
        check_within(place, 0, LAST_PLACE)
        if not is_number(number):
            raise BadSaying("not a number")
        if house not in self.liars:
            self.bind(house, place, number)
        row = (house, place, number)
        self.said[row] = True
        return row

    def bind(self, house, place, number):
        """Bind an honest house to its one number for a place."""
        if self.bound.get((house, place), number) != number:
            raise NotNow("an honest house says one number for each place")
        self.bound[(house, place)] = number

    def show(self, house, row):
        """Show a house a saying that was said."""
        self.check_is_house(house)
        if not is_saying(row) or row not in self.said:
            raise BadSaying("this was never said")
        seen = self.seen[house]
        seen[row] = True

    def pass_on(self, house, other):
        """Let a house show another one all that it has seen, and tell how many were new to that."""
        self.check_is_house(house)
        self.check_is_house(other)
        seen = self.seen[other]
        new = [row for row in self.seen[house] if row not in seen]
        for row in new:
            seen[row] = True
        return len(new)

    def known(self, house):
        """All sayings that a house has seen, rising."""
        self.check_is_house(house)
        return sorted(self.seen[house])

    def clashes(self, house):
        """All pairs of sayings that a house has seen of one house and place, rising."""
        groups = {}
        for row in self.known(house):
            groups.setdefault(row[:2], []).append(row)
        return [pair for group in groups.values() for pair in pairs_of(group)]

    def convicted(self, house):
        """All houses of the clashes that a house has, rising."""
        return sorted({row[0] for row, other in self.clashes(house)})


def all_convicted(book):
    """All houses that any honest house has convicted, rising."""
    if not isinstance(book, Book):
        raise BadHouses("not a book")
    return sorted({liar for house in book.honest() for liar in book.convicted(house)})

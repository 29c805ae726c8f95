"""Houses whose numbers come nearer round by round, though some of them lie."""

from liarclocks.checks import MOST_FEW, MOST_HOUSES, check_few, check_honest, check_some_houses, check_within
from liarclocks.checks import check_worths, is_house, is_number, is_pair
from liarclocks.errors import BadHouses, BadLies
from liarclocks.worths import middle, spread

MOST_APART = 2000000
MOST_APART_STUCK = 1000000


def check_enough(houses, few):
    """Refuse more than 16 houses, or no more than twice few."""
    if houses > MOST_HOUSES or houses <= 2 * few:
        raise BadHouses("too many houses, or no more than twice few")


def is_key(thing, liars, houses):
    """Whether a thing is a pair of a liar and any house."""
    if not is_pair(thing) or not is_house(thing[0], houses) or not is_house(thing[1], houses):
        return False
    return thing[0] in liars


def check_lies(lies, liars, houses):
    """Refuse what is no dict of what liars tell houses."""
    if not isinstance(lies, dict):
        raise BadLies("lies are no dict")
    if not all([is_key(key, liars, houses) and is_number(told) for key, told in lies.items()]):
        raise BadLies("not pairs of a liar and a house, with numbers")


class Meeting:
    """Houses with a number each, which go to the middle of what they hear."""

    def __init__(self, worths, *, few, liars=()):
        check_worths(worths)
        check_few(few)
        check_enough(len(worths), few)
        check_some_houses(liars, len(worths), few)
        self.few = few
        self.liars = list(liars)
        # Those of liars stay as they were at first: that is what they tell without a lie.
        self.numbers = list(worths)
        self.met = 0

    def heard(self, house, lies):
        """What a house hears in a round with these lies, its own number too."""
        return [lies.get((other, house), number) for other, number in enumerate(self.numbers)]

    def meet(self, lies):
        """One round: all honest houses go at once to the middle of what they hear."""
        check_lies(lies, self.liars, len(self.numbers))
        houses = self.honest()
        middles = [middle(self.heard(house, lies), few=self.few) for house in houses]
        for house, number in zip(houses, middles):
            self.numbers[house] = number
        self.met += 1

    def number(self, house):
        """The number of an honest house."""
        check_honest(house, len(self.numbers), self.liars)
        return self.numbers[house]

    def numbers_now(self):
        """The numbers of the honest houses, by houses."""
        return [self.numbers[house] for house in self.honest()]

    def honest(self):
        """The honest houses, rising."""
        return [house for house in range(len(self.numbers)) if house not in self.liars]

    def apart(self):
        """The spread of the honest houses' numbers."""
        return spread(self.numbers_now())

    def rounds(self):
        """How many rounds there were."""
        return self.met


def rounds_for(apart, near=1):
    """How many halvings, rounded up, bring a distance to another one or below."""
    check_within(apart, 0, MOST_APART)
    check_within(near, 1, MOST_APART)
    many = 0
    left = apart
    while left > near:
        left = (left + 1) // 2
        many += 1
    return many


def stuck(few, *, apart=10):
    """The numbers, liars and lies of three times few houses that never come nearer."""
    check_within(few, 1, MOST_FEW)
    check_within(apart, 1, MOST_APART_STUCK)
    numbers = [0] * few + [apart] * few + [0] * few
    liars = list(range(2 * few, 3 * few))
    lies = {(liar, house): numbers[house] for liar in liars for house in range(2 * few)}
    return (numbers, liars, lies)

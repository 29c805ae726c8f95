"""Companies of clocks that are set right together, though some houses lie."""

from liarclocks.checks import LAST_BEAT, MOST_HOUSES, check_few, check_honest, check_some_houses, check_within
from liarclocks.checks import is_house, is_pair, is_within
from liarclocks.clocks import Clock, by_rounded_up, drift_in
from liarclocks.errors import BadHouses, BadLies, NotNow
from liarclocks.meetings import check_lies
from liarclocks.worths import half_way, how_far, without_ends

MOST_ERROR = 100
MOST_APART_BEFORE = 10000000


def check_clocks(clocks):
    """Refuse what is no list of 1 to 16 clocks."""
    if not isinstance(clocks, list) or not 1 <= len(clocks) <= MOST_HOUSES:
        raise BadHouses("not a list of 1 to 16 clocks")
    if not all([isinstance(clock, Clock) for clock in clocks]):
        raise BadHouses("not clocks alone")


def check_error(error):
    """Refuse what is no bound of errors."""
    check_within(error, 0, MOST_ERROR)


def is_off_key(thing, houses):
    """Whether a thing is a pair of two unlike houses."""
    if not is_pair(thing) or not is_house(thing[0], houses) or not is_house(thing[1], houses):
        return False
    return thing[0] != thing[1]


def check_offs(offs, error, houses):
    """Refuse what is no dict of errors by who is read and who reads."""
    if not isinstance(offs, dict):
        raise BadLies("errors are no dict")
    if not all([is_off_key(key, houses) and is_within(off, -error, error) for key, off in offs.items()]):
        raise BadLies("not pairs of two unlike houses, with errors as large as told at most")


class Company:
    """Clocks of houses, which those that are in set to the middle of what they read."""

    def __init__(self, clocks, *, few, error=0, liars=(), waiting=()):
        check_clocks(clocks)
        check_few(few)
        check_error(error)
        check_some_houses(liars, len(clocks), few)
        check_some_houses(waiting, len(clocks), len(clocks))
        if any([house in liars for house in waiting]):
            raise BadHouses("a liar does not wait")
        if len(clocks) - len(waiting) <= 2 * few:
            raise BadHouses("no more than twice few are in")
        self.clocks = [clock.twin() for clock in clocks]
        self.few = few
        self.error = error
        self.liars = list(liars)
        self.waits = list(waiting)
        self.last_beat = 0
        self.past = []

    def members(self):
        """All houses that are in, rising."""
        return [house for house in range(len(self.clocks)) if house not in self.waits]

    def honest(self):
        """The honest houses that are in, rising."""
        return [house for house in self.members() if house not in self.liars]

    def shows(self, house, beat):
        """What the clock of an honest house shows at a beat, also of one that waits."""
        check_honest(house, len(self.clocks), self.liars)
        return self.clocks[house].shows(beat)

    def readings(self, beat):
        """What honest houses show that are in, by houses."""
        return [self.clocks[house].shows(beat) for house in self.honest()]

    def apart(self, beat):
        """How far apart honest houses are that are in."""
        return how_far(self.readings(beat))

    def check_reading(self, beat, lies, offs):
        """Refuse a beat, lies or errors with which nobody can read."""
        check_within(beat, self.last_beat, LAST_BEAT)
        check_lies(lies, self.liars, len(self.clocks))
        check_offs(offs, self.error, len(self.clocks))

    def read_of(self, house, reader, beat, lies, offs):
        """What a reader sees of one house."""
        shown = self.clocks[house].shows(beat)
        if house in self.liars:
            return lies.get((house, reader), shown)
        # Of itself it sees what it shows: errors are of unlike houses alone.
        return shown + offs.get((house, reader), 0)

    def middle_read(self, reader, beat, lies, offs):
        """The middle of what a reader sees of all that are in."""
        read = [self.read_of(house, reader, beat, lies, offs) for house in self.members()]
        # Readings may lie beyond the bounds of numbers, so these are not looked at here.
        return half_way(without_ends(read, self.few))

    def meet(self, beat, lies, *, offs=None):
        """A meeting: all honest houses that are in set their clocks at once; told are the steps."""
        errors = {} if offs is None else offs
        self.check_reading(beat, lies, errors)
        houses = self.honest()
        middles = [self.middle_read(house, beat, lies, errors) for house in houses]
        steps = [self.clocks[house].set_to(reading, beat) for house, reading in zip(houses, middles)]
        self.last_beat = beat
        self.past.append((beat, list(steps)))
        return steps

    def enter(self, house, beat, lies, *, offs=None):
        """Let an honest house that waits set its clock by those that are in, and be in."""
        check_honest(house, len(self.clocks), self.liars)
        if house not in self.waits:
            raise NotNow("this house is in")
        errors = {} if offs is None else offs
        self.check_reading(beat, lies, errors)
        self.clocks[house].set_to(self.middle_read(house, beat, lies, errors), beat)
        self.waits.remove(house)
        self.last_beat = beat

    def leave(self, house):
        """Let an honest house that is in wait from now on."""
        check_honest(house, len(self.clocks), self.liars)
        if house in self.waits:
            raise NotNow("this house waits")
        if len(self.members()) - 1 <= 2 * self.few:
            raise NotNow("too few would be left")
        self.waits.append(house)

    def history(self):
        """All meetings: pairs of a beat and the list of steps."""
        return [(beat, list(steps)) for beat, steps in self.past]


def after_meeting(apart, *, error):
    """The most that honest clocks are apart behind a meeting."""
    check_within(apart, 0, MOST_APART_BEFORE)
    check_error(error)
    return by_rounded_up(apart + 4 * error, 2)


def steady(*, error, rate, beats):
    """The least distance behind a meeting that is kept, meeting by meeting, with so many beats between."""
    check_error(error)
    # Half of a distance and of what is added, rounded up, is within it just from what is added on.
    return 2 * drift_in(beats, rate=rate) + 4 * error

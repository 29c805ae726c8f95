"""Strikes with letters that take beats."""

from liarclocks.checks import check_within, is_within
from liarclocks.errors import BadNumber, NotNow
from liarclocks.pulses import Pulse, check_round

MOST_DELAY = 50
LAST_TIMED_BEAT = 5000


class TimedPulse(Pulse):
    """Houses that strike rounds together, with letters that come as beats go by."""

    def __init__(self, houses, *, few, liars=(), delay=10):
        Pulse.__init__(self, houses, few=few, liars=liars)
        check_within(delay, 1, MOST_DELAY)
        self.delay = delay
        self.beat = 0

    def check_delays(self, delays):
        """Refuse what is no list or tuple of delays."""
        if not isinstance(delays, (list, tuple)):
            raise BadNumber("delays are no list or tuple")
        if not all([is_within(delay, 1, self.delay) for delay in delays]):
            raise BadNumber("not delays from 1 to the greatest")

    def delay_of(self, letter, place, delays):
        """How long the letter takes that is at a place of all on their way."""
        if letter.sender in self.liars or len(delays) == 0:
            return self.delay
        return delays[place % len(delays)]

    def give_dues(self, first, delays):
        """Give all letters from a place on that have none the beats at which they are due."""
        for place in range(first, len(self.on_way)):
            letter = self.on_way[place]
            if letter.due is None:
                letter.due = self.beat + self.delay_of(letter, place, delays)

    def go_on(self, *, delays=()):
        """Let a beat go by, and all letters come that are due then."""
        self.check_delays(delays)
        if self.beat >= LAST_TIMED_BEAT:
            raise NotNow("this was the last beat")
        self.give_dues(0, delays)
        self.beat += 1
        at = 0
        while at < len(self.on_way):
            if self.on_way[at].due > self.beat:
                at += 1
            else:
                left = len(self.on_way) - 1
                self.come(at)
                # No new letter is due by now, and no older one, so the walk goes on from this place.
                self.give_dues(left, delays)

    def strike(self, house, count):
        """Strike a round, and know at which beat."""
        self.struck[(house, count)] = self.beat

    def now(self):
        """The beat that it is."""
        return self.beat

    def struck_at(self, house, count):
        """The beat at which an honest house struck a round; None, if it did not."""
        self.check_is_honest(house)
        check_round(count)
        return self.struck.get((house, count))

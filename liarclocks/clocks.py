"""Clocks that go wrong a little."""

from liarclocks.checks import LAST_BEAT, check_beat, check_number, check_within

FARTHEST_TURN = 2000000
FARTHEST_READING = 2000000
MOST_RATE = 100
# A rate is told in so many parts of a beat.
PARTS = 1000


def by_rounded_up(many, parts):
    """A whole number by another one, rounded up."""
    return -(-many // parts)


class Clock:
    """A clock that goes by its rate, and may be turned."""

    def __init__(self, *, first=0, rate=0):
        check_number(first)
        check_within(rate, -MOST_RATE, MOST_RATE)
        self.first = first
        self.rate = rate
        self.turned = 0

    def raw(self, beat):
        """What the clock would show at a beat if it was never turned."""
        check_beat(beat)
        return self.first + beat * (PARTS + self.rate) // PARTS

    def shows(self, beat):
        """What the clock shows at a beat, as it is set now."""
        return self.raw(beat) + self.turned

    def turn(self, many):
        """Turn the clock on, or back by a number below 0."""
        check_within(many, -FARTHEST_TURN, FARTHEST_TURN)
        self.turned += many

    def set_to(self, reading, beat):
        """Turn the clock, however far it is, so that it shows a reading at a beat, and tell by how much."""
        step = reading - self.shows(beat)
        self.turned += step
        return step

    def beat_of(self, reading):
        """The first beat at which the clock shows a reading or more; None, if it does not in time."""
        check_within(reading, -FARTHEST_READING, FARTHEST_READING)
        to_go = max(0, reading - self.first - self.turned)
        # A reading rounded down reaches a whole number just where the one that is not rounded does.
        beat = by_rounded_up(to_go * PARTS, PARTS + self.rate)
        return beat if beat <= LAST_BEAT else None

    def twin(self):
        """Another clock that shows the same, set by itself from then on."""
        other = Clock(first=self.first, rate=self.rate)
        other.turned = self.turned
        return other


def drift_in(beats, *, rate):
    """How far a clock of such a rate may go wrong in some beats."""
    check_beat(beats)
    check_within(rate, 0, MOST_RATE)
    return by_rounded_up(beats * rate, PARTS) + 1

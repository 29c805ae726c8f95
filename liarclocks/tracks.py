"""A truth that moves, seen by sensors of which some lie."""

from liarclocks.checks import LAST_BEAT, check_few, check_within
from liarclocks.errors import BadWorths, NotNow
from liarclocks.spans import fused, have_common, sensors_off

MOST_SPEED = 1000


class Track:
    """Where a truth is that moves no farther in a beat than its speed."""

    def __init__(self, *, few, speed):
        check_few(few)
        check_within(speed, 0, MOST_SPEED)
        self.few = few
        self.speed = speed
        self.last_beat = 0
        self.last_place = None
        self.caught = {}

    def wider(self, beat):
        """Where the truth may be at a beat by what was seen last."""
        way = self.speed * (beat - self.last_beat)
        low, high = self.last_place
        return (low - way, high + way)

    def narrowed(self, beat, place):
        """What a place at a beat has in common with what was seen last."""
        if self.last_place is None:
            return place
        reach = self.wider(beat)
        if not have_common(place, reach):
            raise BadWorths("the truth can not have moved so far")
        return (max(place[0], reach[0]), min(place[1], reach[1]))

    def see(self, beat, spans):
        """Take the spans of all sensors at a beat, and tell where the truth is."""
        check_within(beat, self.last_beat, LAST_BEAT)
        together = fused(spans, few=self.few)
        if together is None:
            raise BadWorths("more than few sensors lie")
        place = self.narrowed(beat, together)
        # The place lies in the fused span, so who is shown false does not meet it either.
        for sensor in sensors_off(spans, place):
            self.caught[sensor] = True
        self.last_beat = beat
        self.last_place = place
        return place

    def guess(self, beat):
        """Where the truth may be at a beat, from the last one on."""
        if self.last_place is None:
            raise NotNow("nothing was seen")
        check_within(beat, self.last_beat, LAST_BEAT)
        return self.wider(beat)

    def liars_found(self):
        """All sensors that were caught, rising."""
        return sorted(self.caught)

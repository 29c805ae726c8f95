import itertools
import unittest

from liarclocks.clocks import Clock, drift_in
from liarclocks.errors import BadNumber
from things import NO_BEAT, NO_NUMBER, NO_WHOLE

NO_RATE = NO_WHOLE + (-101, 101, 10 ** 5000, -10 ** 5000)
NO_TURN = NO_WHOLE + (-2000001, 2000001, 10 ** 5000, -10 ** 5000)


def state(clock):
    return [(clock.raw(beat), clock.shows(beat)) for beat in (0, 1, 19, 20, 999, 1000, 100000)]


def readings(clock, beats):
    return [clock.raw(beat) for beat in beats]


class Raw(unittest.TestCase):
    def test_by_itself_it_shows_the_beat(self):
        self.assertEqual(readings(Clock(), (0, 1, 7, 100000)), [0, 1, 7, 100000])

    def test_ordinary(self):
        self.assertEqual(readings(Clock(first=100, rate=50), (0, 1, 19, 20, 1000)), [100, 101, 119, 121, 1150])
        self.assertEqual(readings(Clock(first=-40, rate=-3), (0, 1, 2, 333, 334, 1000)), [-40, -40, -39, 292, 292, 957])

    def test_the_rates_at_their_bounds(self):
        self.assertEqual(readings(Clock(rate=-100), (0, 1, 2, 9, 10, 11, 100000)), [0, 0, 1, 8, 9, 9, 90000])
        self.assertEqual(readings(Clock(rate=100), (0, 1, 9, 10, 11, 100000)), [0, 1, 9, 11, 12, 110000])

    def test_the_first_readings_at_their_bounds(self):
        self.assertEqual(readings(Clock(first=-1000000), (0, 1, 100000)), [-1000000, -999999, -900000])
        self.assertEqual(readings(Clock(first=1000000, rate=100), (0, 100000)), [1000000, 1110000])

    def test_rounded_down_below_0(self):
        self.assertEqual(readings(Clock(first=-5, rate=-1), (1, 2, 3)), [-5, -4, -3])
        self.assertEqual(readings(Clock(first=-5, rate=1), (1, 2, 3)), [-4, -3, -2])


class Shows(unittest.TestCase):
    def test_several_turns(self):
        clock = Clock(first=100, rate=50)
        self.assertEqual(clock.shows(20), 121)
        self.assertIsNone(clock.turn(5))
        self.assertEqual(clock.shows(20), 126)
        clock.turn(-40)
        self.assertEqual([clock.shows(beat) for beat in (0, 1, 20, 10)], [65, 66, 86, 75])
        clock.turn(0)
        self.assertEqual(clock.shows(20), 86)
        self.assertEqual(clock.raw(20), 121)

    def test_turns_at_their_bounds(self):
        clock = Clock(first=3)
        for turns in range(1, 4):
            clock.turn(2000000)
            self.assertEqual(clock.shows(1), 2000000 * turns + 4)
        for turns in range(1, 6):
            clock.turn(-2000000)
        self.assertEqual(clock.shows(1), -3999996)
        self.assertEqual(clock.raw(1), 4)


class BeatOf(unittest.TestCase):
    def test_ordinary(self):
        self.assertEqual(Clock().beat_of(5), 5)
        self.assertEqual(Clock(first=100, rate=50).beat_of(121), 20)
        self.assertEqual(Clock(first=100, rate=50).beat_of(120), 20)
        self.assertEqual(Clock(first=100, rate=50).beat_of(119), 19)
        self.assertEqual(Clock(rate=-100).beat_of(1), 2)
        self.assertEqual(Clock(rate=-100).beat_of(9), 10)
        self.assertEqual(Clock(first=-40, rate=-3).beat_of(-40), 0)
        self.assertEqual(Clock(first=-40, rate=-3).beat_of(-39), 2)

    def test_just_at_beat_0_and_below(self):
        for first in (-7, 0, 30):
            clock = Clock(first=first, rate=-100)
            self.assertEqual([clock.beat_of(first + more) for more in (-500, -1, 0, 1)], [0, 0, 0, 2])

    def test_just_at_beat_100000_and_not_in_time(self):
        for rate, last in ((-100, 90000), (-1, 99900), (0, 100000), (1, 100100), (100, 110000)):
            clock = Clock(rate=rate)
            self.assertEqual(clock.beat_of(last), 100000)
            self.assertIsNone(clock.beat_of(last + 1))
            self.assertIsNone(clock.beat_of(2000000))

    def test_as_it_is_set_now(self):
        clock = Clock(first=10)
        self.assertEqual(clock.beat_of(15), 5)
        clock.turn(3)
        self.assertEqual(clock.beat_of(15), 2)
        clock.turn(3)
        self.assertEqual(clock.beat_of(15), 0)
        clock.turn(-100010)
        self.assertIsNone(clock.beat_of(15))
        self.assertEqual(clock.beat_of(6), 100000)

    def test_the_readings_at_their_bounds(self):
        clock = Clock(first=1000000, rate=100)
        self.assertEqual(clock.beat_of(-2000000), 0)
        self.assertIsNone(clock.beat_of(2000000))
        clock.turn(890000)
        self.assertEqual(clock.beat_of(2000000), 100000)
        clock.turn(-2000000)
        clock.turn(-2000000)
        self.assertEqual(clock.shows(100000), -2000000)
        self.assertEqual(clock.beat_of(-2000000), 100000)

    def test_against_all_beats(self):
        for first, rate, turned in itertools.product((-3, 0, 4), (-100, -99, -7, 0, 1, 33, 100), (-5, 0, 2)):
            clock = Clock(first=first, rate=rate)
            clock.turn(turned)
            for reading in range(-10, 60):
                told = next(beat for beat in range(100) if clock.shows(beat) >= reading)
                self.assertEqual(clock.beat_of(reading), told)


class Twin(unittest.TestCase):
    def test_it_shows_the_same(self):
        clock = Clock(first=-7, rate=13)
        clock.turn(4)
        twin = clock.twin()
        self.assertIsInstance(twin, Clock)
        self.assertIsNot(twin, clock)
        self.assertEqual(state(twin), state(clock))
        self.assertEqual(twin.beat_of(500), clock.beat_of(500))

    def test_each_is_set_by_itself(self):
        clock = Clock(first=-7, rate=13)
        clock.turn(4)
        twin = clock.twin()
        before = state(clock)
        twin.turn(100)
        self.assertEqual(state(clock), before)
        self.assertEqual(twin.shows(0), 97)
        clock.turn(-1)
        self.assertEqual((clock.shows(0), twin.shows(0)), (-4, 97))

    def test_of_a_clock_that_was_turned_far(self):
        clock = Clock(first=1000000)
        for turns in range(3):
            clock.turn(2000000)
        self.assertEqual(clock.twin().twin().shows(5), 7000005)


class Drift(unittest.TestCase):
    def test_ordinary(self):
        for beats, rate, told in ((999, 1, 2), (1000, 1, 2), (1001, 1, 3), (1, 1, 2), (2500, 2, 6)):
            self.assertEqual(drift_in(beats, rate=rate), told)
        for beats, rate, told in ((9, 100, 2), (10, 100, 2), (11, 100, 3)):
            self.assertEqual(drift_in(beats, rate=rate), told)

    def test_the_edges(self):
        self.assertEqual(drift_in(0, rate=0), 1)
        self.assertEqual(drift_in(0, rate=100), 1)
        self.assertEqual(drift_in(100000, rate=0), 1)
        self.assertEqual(drift_in(100000, rate=100), 10001)

    def test_refusals(self):
        for beats in NO_BEAT:
            for rate in (0, 100, None):
                with self.assertRaises(BadNumber):
                    drift_in(beats, rate=rate)
        for rate in NO_RATE + (-1, -100):
            with self.assertRaises(BadNumber):
                drift_in(10, rate=rate)

    def test_rate_is_handed_in_by_its_name_alone(self):
        with self.assertRaises(TypeError):
            drift_in(10, 1)
        with self.assertRaises(TypeError):
            drift_in(10)


class Refusals(unittest.TestCase):
    def setUp(self):
        self.clock = Clock(first=9, rate=-20)
        self.clock.turn(3)
        self.before = state(self.clock)

    def tearDown(self):
        self.assertEqual(state(self.clock), self.before)

    def test_when_made(self):
        for first in NO_NUMBER:
            with self.assertRaises(BadNumber):
                Clock(first=first)
            with self.assertRaises(BadNumber):
                Clock(first=first, rate=None)
        for rate in NO_RATE:
            with self.assertRaises(BadNumber):
                Clock(rate=rate)

    def test_no_beat(self):
        for beat in NO_BEAT:
            with self.assertRaises(BadNumber):
                self.clock.raw(beat)
            with self.assertRaises(BadNumber):
                self.clock.shows(beat)

    def test_no_turn(self):
        for many in NO_TURN:
            with self.assertRaises(BadNumber):
                self.clock.turn(many)

    def test_no_reading(self):
        for reading in NO_TURN:
            with self.assertRaises(BadNumber):
                self.clock.beat_of(reading)

    def test_first_and_rate_are_handed_in_by_their_names_alone(self):
        with self.assertRaises(TypeError):
            Clock(1)
        with self.assertRaises(TypeError):
            Clock(1, 2)


class NothingIsChanged(unittest.TestCase):
    def test_what_is_asked_changes_nothing(self):
        clock = Clock(first=9, rate=-20)
        clock.turn(3)
        before = state(clock)
        clock.beat_of(50)
        clock.beat_of(2000000)
        clock.twin()
        self.assertEqual(state(clock), before)


if __name__ == "__main__":
    unittest.main()

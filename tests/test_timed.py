import itertools
import random
import unittest

from liarclocks.errors import BadHouses, BadNumber, NoHouse, NotNow
from liarclocks.pulses import Pulse
from liarclocks.timed import TimedPulse
from things import NO_FEW, NO_ROW, NO_WHOLE

NO_DELAY = NO_WHOLE + (0, -1, 51, 10 ** 5000, -10 ** 5000)
NO_ROUND = NO_WHOLE + (0, -1, 100, 10 ** 5000, -10 ** 5000)
NO_HOUSES = NO_WHOLE + (0, -1, 17, 10 ** 5000, -10 ** 5000)


def four(delay=5):
    """House 3 lies."""
    return TimedPulse(4, few=1, liars=(3,), delay=delay)


def state(timed):
    houses = timed.honest()
    said = [timed.has_said(house, count) for house in houses for count in (1, 2, 3, 99)]
    beats = [timed.struck_at(house, count) for house in houses for count in (1, 2, 3, 99)]
    strikes = [timed.strikes(house) for house in houses]
    return (houses, timed.letters(), said, strikes, timed.all_strikes(), beats, timed.now())


def go(timed, beats, delays=()):
    for beat in range(beats):
        timed.go_on(delays=delays)


class Slow:
    """Timed strikes once more, with letters by their numbers, to hold the other ones against."""

    def __init__(self, houses, few, liars, delay):
        self.honest = [house for house in range(houses) if house not in liars]
        self.few, self.delay = few, delay
        self.beat, self.letters, self.dues = 0, [], {}
        self.written, self.got, self.struck = set(), {}, []

    def write(self, house, count):
        self.written.add((house, count))
        self.letters += [[house, other, count] for other in self.honest]

    def lie(self, liar, house, count):
        self.letters.append([liar, house, count])

    def give(self, delays):
        for place, letter in enumerate(self.letters):
            if id(letter) not in self.dues:
                told = delays if letter[0] in self.honest and delays else [self.delay]
                self.dues[id(letter)] = (self.beat + told[place % len(told)], letter)

    def go_on(self, delays):
        self.give(delays)
        self.beat += 1
        while any(self.dues[id(letter)][0] <= self.beat for letter in self.letters):
            sender, house, count = due = next(x for x in self.letters if self.dues[id(x)][0] <= self.beat)
            self.letters = [letter for letter in self.letters if letter is not due]
            many = self.got.setdefault((house, count), set())
            many.add(sender)
            if len(many) > self.few and (house, count) not in self.written:
                self.write(house, count)
            if len(many) > 2 * self.few and (house, count) not in [pair for pair, beat in self.struck]:
                self.struck.append(((house, count), self.beat))
            self.give(delays)


class Made(unittest.TestCase):
    def test_at_first(self):
        timed = four()
        self.assertEqual(timed.now(), 0)
        self.assertEqual((timed.honest(), timed.letters(), timed.all_strikes()), ([0, 1, 2], [], []))
        self.assertIsNone(timed.struck_at(0, 1))

    def test_it_is_a_pulse(self):
        self.assertIsInstance(four(), Pulse)

    def test_all_deeds_of_a_pulse(self):
        timed = four()
        self.assertIsNone(timed.ready(0, 7))
        self.assertIsNone(timed.lie(3, 1, 7))
        self.assertEqual(timed.letters(), [(0, 0, 7), (0, 1, 7), (0, 2, 7), (3, 1, 7)])
        self.assertTrue(timed.has_said(0, 7))
        go(timed, 15)
        self.assertEqual(timed.strikes(1), [7])
        self.assertEqual(sorted(timed.all_strikes()), [(0, 7), (1, 7), (2, 7)])

    def test_liars_may_be_left_out(self):
        self.assertEqual(TimedPulse(4, few=1).honest(), [0, 1, 2, 3])

    def test_the_delay_is_10_unless_told(self):
        timed = TimedPulse(1, few=0)
        timed.ready(0, 1)
        go(timed, 9)
        self.assertEqual(timed.letters(), [(0, 0, 1)])
        go(timed, 1)
        self.assertEqual((timed.letters(), timed.struck_at(0, 1)), ([], 10))

    def test_one_and_sixteen_houses(self):
        self.assertEqual(TimedPulse(1, few=0, delay=50).honest(), [0])
        self.assertEqual(TimedPulse(16, few=5, liars=[11, 12, 13, 14, 15], delay=1).honest(), list(range(11)))


class GoOn(unittest.TestCase):
    def test_beats_go_by(self):
        timed = four()
        for beat in range(1, 20):
            self.assertIsNone(timed.go_on())
            self.assertEqual(timed.now(), beat)

    def test_delays_by_places(self):
        timed = four()
        timed.ready(0, 1)
        timed.go_on(delays=[1, 3, 2])
        self.assertEqual(timed.letters(), [(0, 1, 1), (0, 2, 1)])
        timed.go_on()
        self.assertEqual(timed.letters(), [(0, 1, 1)])
        timed.go_on()
        self.assertEqual(timed.letters(), [])

    def test_delays_may_be_a_tuple(self):
        timed = four()
        timed.ready(0, 1)
        timed.go_on(delays=(2, 1, 2))
        self.assertEqual(timed.letters(), [(0, 0, 1), (0, 2, 1)])

    def test_fewer_delays_than_letters(self):
        timed = four()
        timed.ready(0, 1)
        timed.ready(1, 2)
        # By places: 1, 2, 1, 2, 1, 2.
        timed.go_on(delays=[1, 2])
        self.assertEqual(timed.letters(), [(0, 1, 1), (1, 0, 2), (1, 2, 2)])
        timed.go_on(delays=[5])
        self.assertEqual(timed.letters(), [])

    def test_more_delays_than_letters(self):
        timed = four()
        timed.ready(0, 1)
        timed.go_on(delays=[2, 1, 3, 1, 1, 1, 1])
        self.assertEqual(timed.letters(), [(0, 0, 1), (0, 2, 1)])
        timed.go_on()
        self.assertEqual(timed.letters(), [(0, 2, 1)])

    def test_without_delays_the_greatest(self):
        for delays in ((), []):
            timed = four(delay=3)
            timed.ready(0, 1)
            go(timed, 2, delays=delays)
            self.assertEqual(len(timed.letters()), 3)
            timed.go_on(delays=delays)
            self.assertEqual(timed.letters(), [])

    def test_letters_that_are_due_at_once(self):
        timed = TimedPulse(4, few=1, delay=1)
        for house in (0, 1, 2):
            timed.ready(house, 9)
        # At beat 1 each has letters of three houses, and house 3 writes; that comes at beat 2.
        timed.go_on()
        self.assertEqual(timed.all_strikes(), [(0, 9), (1, 9), (2, 9), (3, 9)])
        self.assertEqual(timed.letters(), [(3, 0, 9), (3, 1, 9), (3, 2, 9), (3, 3, 9)])
        timed.go_on()
        self.assertEqual(timed.letters(), [])
        self.assertEqual([timed.struck_at(house, 9) for house in range(4)], [1, 1, 1, 1])

    def test_delays_count_from_the_beat_that_goes_by(self):
        timed = four()
        go(timed, 7)
        timed.ready(0, 1)
        timed.go_on(delays=[2])
        self.assertEqual((timed.now(), len(timed.letters())), (8, 3))
        timed.go_on(delays=[5])
        self.assertEqual((timed.now(), timed.letters()), (9, []))

    def test_a_letter_keeps_its_beat(self):
        timed = four()
        timed.ready(0, 1)
        timed.go_on(delays=[3])
        timed.go_on(delays=[1])
        self.assertEqual(len(timed.letters()), 3)
        timed.go_on(delays=[5])
        self.assertEqual(timed.letters(), [])

    def test_places_are_among_all_letters_on_their_way(self):
        timed = four()
        timed.ready(0, 1)
        timed.go_on(delays=[1, 5, 5])
        timed.ready(1, 2)
        # On their way are two older letters; the new ones have places 2, 3, 4 and delays 3, 1, 2.
        timed.go_on(delays=[1, 2, 3])
        self.assertEqual(timed.letters(), [(0, 1, 1), (0, 2, 1), (1, 0, 2), (1, 2, 2)])
        timed.go_on()
        self.assertEqual(timed.letters(), [(0, 1, 1), (0, 2, 1), (1, 0, 2)])
        timed.go_on()
        self.assertEqual(timed.letters(), [(0, 1, 1), (0, 2, 1)])

    def test_letters_of_liars_take_the_greatest_delay(self):
        timed = four()
        timed.lie(3, 0, 1)
        timed.ready(0, 2)
        timed.go_on(delays=[1])
        self.assertEqual(timed.letters(), [(3, 0, 1)])
        go(timed, 3, delays=[1])
        self.assertEqual(timed.letters(), [(3, 0, 1)])
        timed.go_on(delays=[1])
        self.assertEqual(timed.letters(), [])

    def test_letters_of_liars_have_places_too(self):
        timed = four()
        timed.lie(3, 0, 1)
        timed.ready(0, 2)
        timed.go_on(delays=[1, 2, 3, 1])
        self.assertEqual(timed.letters(), [(3, 0, 1), (0, 0, 2), (0, 1, 2)])

    def test_letters_written_by_letters_get_their_beats_at_once(self):
        timed = TimedPulse(2, few=0, delay=5)
        timed.ready(0, 1)
        # At beat 1 the letter at place 1 comes; house 1 writes, at places 1 and 2 behind the one that is left.
        timed.go_on(delays=[4, 1, 2])
        self.assertEqual(timed.letters(), [(0, 0, 1), (1, 0, 1), (1, 1, 1)])
        # They are due at beats 4, 2 and 3.
        timed.go_on()
        self.assertEqual(timed.letters(), [(0, 0, 1), (1, 1, 1)])
        timed.go_on()
        self.assertEqual(timed.letters(), [(0, 0, 1)])
        timed.go_on()
        self.assertEqual(timed.letters(), [])
        self.assertEqual((timed.struck_at(1, 1), timed.struck_at(0, 1)), (1, 2))

    def test_places_of_letters_written_while_others_are_due(self):
        timed = TimedPulse(3, few=0, delay=9)
        timed.ready(0, 1)
        # House 1 writes while (0, 2, 1) still stands at place 0: places 1, 2, 3, due at beats 2, 2, 8.
        # House 2 writes when these three alone are left: places 3, 4, 5, due at beats 8, 4, 2.
        timed.go_on(delays=[1, 1, 1, 7, 3])
        self.assertEqual(timed.all_strikes(), [(0, 1), (1, 1), (2, 1)])
        self.assertEqual(timed.letters(), [(1, 0, 1), (1, 1, 1), (1, 2, 1), (2, 0, 1), (2, 1, 1), (2, 2, 1)])
        timed.go_on()
        self.assertEqual(timed.letters(), [(1, 2, 1), (2, 0, 1), (2, 1, 1)])
        go(timed, 1)
        self.assertEqual(timed.letters(), [(1, 2, 1), (2, 0, 1), (2, 1, 1)])
        go(timed, 4)
        self.assertEqual(timed.letters(), [(1, 2, 1), (2, 0, 1)])
        go(timed, 1)
        self.assertEqual((timed.letters(), timed.now()), ([], 8))

    def test_letters_written_by_letters_without_delays(self):
        timed = TimedPulse(2, few=0, delay=3)
        timed.ready(0, 1)
        timed.go_on(delays=[1])
        self.assertEqual(timed.letters(), [(1, 0, 1), (1, 1, 1)])
        timed = TimedPulse(2, few=0, delay=3)
        timed.ready(0, 1)
        go(timed, 3)
        self.assertEqual(timed.letters(), [(1, 0, 1), (1, 1, 1)])
        go(timed, 2)
        self.assertEqual(timed.letters(), [(1, 0, 1), (1, 1, 1)])
        go(timed, 1)
        self.assertEqual(timed.letters(), [])

    def test_the_oldest_come_first(self):
        timed = TimedPulse(4, few=1, delay=5)
        for house in (2, 0, 1):
            timed.ready(house, 1)
        # All letters are due at beat 2, those of house 1 are the last ones.
        go(timed, 2, delays=[2])
        self.assertEqual(timed.all_strikes(), [(0, 1), (1, 1), (2, 1), (3, 1)])
        timed = TimedPulse(4, few=1, delay=5)
        for house in (2, 0, 1):
            timed.ready(house, 1)
        # The letters to house 0 take a beat more than the others.
        go(timed, 3, delays=[3, 2, 2, 2])
        self.assertEqual(timed.all_strikes(), [(1, 1), (2, 1), (3, 1), (0, 1)])
        self.assertEqual([timed.struck_at(house, 1) for house in range(4)], [3, 2, 2, 2])

    def test_delays_of_1_and_of_the_greatest(self):
        for delay in (1, 2, 50):
            timed = TimedPulse(1, few=0, delay=delay)
            timed.ready(0, 1)
            timed.go_on(delays=[1])
            self.assertEqual(timed.struck_at(0, 1), 1)
            timed.ready(0, 2)
            go(timed, delay, delays=[delay])
            self.assertEqual(timed.struck_at(0, 2), 1 + delay)

    def test_several_rounds(self):
        timed = four(delay=2)
        for count in (1, 2, 99):
            for house in (0, 1, 2):
                timed.ready(house, count)
            go(timed, 3)
        self.assertEqual([timed.struck_at(0, count) for count in (1, 2, 99)], [2, 5, 8])
        self.assertEqual(timed.strikes(0), [1, 2, 99])

    def test_just_few_do_not_strike(self):
        timed = TimedPulse(7, few=2, liars=(5, 6), delay=3)
        for liar, house in itertools.product((5, 6), range(5)):
            timed.lie(liar, house, 1)
        go(timed, 20)
        self.assertEqual((timed.all_strikes(), timed.letters()), ([], []))
        timed.ready(0, 1)
        go(timed, 20, delays=[1])
        # At beat 21 all write behind its letter, at beat 22 all strike.
        self.assertEqual([timed.struck_at(house, 1) for house in range(5)], [22] * 5)

    def test_beat_5000_is_the_last(self):
        timed = TimedPulse(1, few=0, delay=2)
        go(timed, 4998)
        timed.ready(0, 1)
        go(timed, 2)
        self.assertEqual((timed.now(), timed.struck_at(0, 1)), (5000, 5000))
        timed.ready(0, 2)
        before = state(timed)
        for delays in ((), [1], (2, 1)):
            with self.assertRaises(NotNow):
                timed.go_on(delays=delays)
            self.assertEqual(state(timed), before)
        for delays in ([3], None, [None]):
            with self.assertRaises(BadNumber):
                timed.go_on(delays=delays)
        self.assertEqual(state(timed), before)


class ByChance(unittest.TestCase):
    def runs(self, many, seed):
        chance = random.Random(seed)
        for run in range(many):
            few = chance.randrange(0, 3)
            houses = 3 * few + 1 + chance.randrange(0, 2)
            liars = sorted(chance.sample(range(houses), chance.randrange(0, few + 1)))
            yield chance, houses, few, liars, chance.choice((1, 2, 3, 7))

    def test_against_a_slow_one(self):
        for chance, houses, few, liars, delay in self.runs(40, 21):
            timed, slow = TimedPulse(houses, few=few, liars=liars, delay=delay), Slow(houses, few, liars, delay)
            for beat in range(25):
                for house, count in itertools.product(timed.honest(), (1, 2)):
                    if chance.random() < 0.08 and not timed.has_said(house, count):
                        timed.ready(house, count)
                        slow.write(house, count)
                for liar in liars:
                    letter = (liar, chance.choice(timed.honest()), chance.choice((1, 2)))
                    timed.lie(*letter)
                    slow.lie(*letter)
                delays = [chance.randint(1, delay) for k in range(chance.randrange(0, 5))]
                timed.go_on(delays=delays)
                slow.go_on(delays)
                self.assertEqual(timed.letters(), [tuple(letter) for letter in slow.letters])
                self.assertEqual(timed.all_strikes(), [pair for pair, beat in slow.struck])
            for (house, count), beat in slow.struck:
                self.assertEqual(timed.struck_at(house, count), beat)

    def test_all_strike_within_twice_the_greatest_delay_of_the_first(self):
        for chance, houses, few, liars, delay in self.runs(60, 22):
            timed = TimedPulse(houses, few=few, liars=liars, delay=delay)
            for house in chance.sample(timed.honest(), chance.randrange(0, few + 2)):
                timed.ready(house, 1)
            for liar, house in itertools.product(liars, timed.honest()):
                if chance.random() < 0.6:
                    timed.lie(liar, house, 1)
            go(timed, 60, delays=[chance.randint(1, delay) for k in range(5)])
            beats = [timed.struck_at(house, 1) for house in timed.honest()]
            if None in beats:
                self.assertEqual(beats, [None] * len(beats))
            else:
                self.assertLessEqual(max(beats) - min(beats), 2 * delay)


class RefusedWhenMade(unittest.TestCase):
    def refused(self, refusal, *things, **named):
        with self.assertRaises(refusal):
            TimedPulse(*things, **named)

    def test_no_houses(self):
        for houses in NO_HOUSES:
            self.refused(BadNumber, houses, few=0)
            self.refused(BadNumber, houses, few=5, liars=None, delay=None)

    def test_no_few(self):
        for few in NO_FEW:
            self.refused(BadNumber, 16, few=few)
            self.refused(BadNumber, 1, few=few, liars=None)

    def test_no_more_than_three_times_few(self):
        for few in range(1, 6):
            self.refused(BadHouses, 3 * few, few=few)
            self.refused(BadHouses, 3 * few, few=few, delay=0)

    def test_no_liars(self):
        for liars in NO_ROW + ([7], [-1], [0, 0], [1, 0], [0, 1, 2], [True], [None], [[0]], (0, None)):
            self.refused(BadHouses, 7, few=2, liars=liars)
            self.refused(BadHouses, 7, few=2, liars=liars, delay=None)

    def test_no_delay(self):
        for delay in NO_DELAY:
            self.refused(BadNumber, 4, few=1, delay=delay)

    def test_all_but_houses_are_handed_in_by_their_names_alone(self):
        self.refused(TypeError, 4, 1)
        self.refused(TypeError, 4)


class Refused(unittest.TestCase):
    """House 0 has written round 1, at beat 3 it is; house 3 lies."""

    def setUp(self):
        self.timed = self.made()
        self.before = state(self.timed)

    def made(self):
        timed = four()
        go(timed, 2)
        timed.ready(0, 1)
        timed.lie(3, 1, 1)
        timed.go_on(delays=[1, 2])
        timed.ready(1, 2)
        return timed

    def refused(self, refusal, deed, *things, **named):
        with self.assertRaises(refusal) as taken:
            deed(*things, **named)
        self.assertEqual(state(self.timed), self.before)
        return taken.exception

    def test_no_delays(self):
        for delays in NO_ROW:
            self.refused(BadNumber, self.timed.go_on, delays=delays)
        for delay in NO_DELAY + (6,):
            self.refused(BadNumber, self.timed.go_on, delays=[delay])
            self.refused(BadNumber, self.timed.go_on, delays=(1, 2, delay))

    def test_delays_are_handed_in_by_their_name_alone(self):
        self.refused(TypeError, self.timed.go_on, [1])

    def test_no_honest_house(self):
        for house in NO_WHOLE + (3, -1, 4, 10 ** 5000):
            for count in (1, None, 100):
                self.assertIs(self.refused(NoHouse, self.timed.struck_at, house, count).house, house)
                self.assertIs(self.refused(NoHouse, self.timed.ready, house, count).house, house)

    def test_no_round(self):
        for count in NO_ROUND:
            self.refused(BadNumber, self.timed.struck_at, 0, count)
            self.refused(BadNumber, self.timed.ready, 0, count)
            self.refused(BadNumber, self.timed.lie, 3, 0, count)

    def test_written_before(self):
        self.refused(NotNow, self.timed.ready, 0, 1)

    def test_behind_refusals_all_goes_on_as_without_them(self):
        other = self.made()
        self.refused(BadNumber, self.timed.go_on, delays=[1, 6])
        self.refused(BadNumber, self.timed.go_on, delays=None)
        for beat in range(12):
            for timed in (self.timed, other):
                timed.go_on(delays=[2, 1, 3])
            self.assertEqual(state(self.timed), state(other))


class NothingIsChanged(unittest.TestCase):
    def test_what_was_handed_in_is_as_it_was(self):
        liars, delays = [3], [1, 2]
        timed = TimedPulse(4, few=1, liars=liars, delay=5)
        timed.ready(0, 1)
        go(timed, 3, delays=delays)
        self.assertEqual((liars, delays), ([3], [1, 2]))

    def test_what_was_handed_in_is_not_kept(self):
        liars, delays = [3], [1, 4]
        timed = TimedPulse(4, few=1, liars=liars, delay=5)
        liars.clear()
        self.assertEqual(timed.honest(), [0, 1, 2])
        timed.ready(0, 1)
        timed.go_on(delays=delays)
        delays[1] = 1
        delays.append(1)
        timed.go_on()
        self.assertEqual(timed.letters(), [(0, 1, 1)])

    def test_what_is_told_is_new(self):
        timed = TimedPulse(1, few=0)
        timed.ready(0, 1)
        timed.go_on(delays=[1])
        timed.ready(0, 2)
        before = state(timed)
        timed.honest().clear()
        timed.letters().clear()
        timed.strikes(0).append(5)
        timed.all_strikes().append((0, 5))
        self.assertEqual(state(timed), before)


if __name__ == "__main__":
    unittest.main()

import itertools
import random
import unittest

from liarclocks.clocks import Clock, drift_in
from liarclocks.companies import Company, after_meeting, steady
from liarclocks.errors import BadHouses, BadLies, BadNumber, NoHouse, NotNow
from things import NO_BEAT, NO_DICT, NO_FEW, NO_LIST, NO_NUMBER, NO_ROW, NO_WHOLE

NO_ERROR = NO_WHOLE + (-1, 101, 10 ** 5000, -10 ** 5000)
NO_KEY = (None, True, 1, "10", b"10", (), (1,), (1, 0, 0), ((1, 0),), ((1, 0), 0), (1, (0,)), frozenset((1, 0)))
BEATS = (0, 1, 99, 100, 1000, 100000)


def clocks(*firsts):
    return [Clock(first=first) for first in firsts]


def four(waiting=()):
    """House 3 lies."""
    return Company(clocks(0, 10, 20, 40), few=1, error=5, liars=(3,), waiting=waiting)


def five():
    """House 1 lies, house 4 waits."""
    return Company(clocks(0, 7, 10, 20, 900), few=1, error=5, liars=(1,), waiting=(4,))


def shown(company, houses, beat):
    return [company.shows(house, beat) for house in houses]


def state(company, honest):
    """All that is told of a company, also of honest houses that wait."""
    told = [(company.readings(beat), company.apart(beat), shown(company, honest, beat)) for beat in BEATS]
    return (company.members(), company.honest(), company.history(), told)


class Made(unittest.TestCase):
    def test_who_is_in(self):
        company = Company(clocks(*range(8)), few=2, liars=[1, 6], waiting=[0, 3])
        self.assertEqual(company.members(), [1, 2, 4, 5, 6, 7])
        self.assertEqual(company.honest(), [2, 4, 5, 7])
        self.assertEqual(company.readings(10), [12, 14, 15, 17])
        self.assertEqual(company.apart(10), 5)
        self.assertEqual(company.history(), [])

    def test_nobody_lies_or_waits_unless_told(self):
        company = Company(clocks(5, -5, 1), few=1)
        self.assertEqual(company.members(), [0, 1, 2])
        self.assertEqual(company.honest(), [0, 1, 2])
        self.assertEqual(company.readings(0), [5, -5, 1])
        self.assertEqual(company.apart(0), 10)

    def test_liars_and_those_that_wait_are_lists_or_tuples(self):
        for liars, waiting in itertools.product(([1], (1,)), ([0, 3], (0, 3))):
            company = Company(clocks(*range(6)), few=1, liars=liars, waiting=waiting)
            self.assertEqual((company.members(), company.honest()), ([1, 2, 4, 5], [2, 4, 5]))

    def test_clocks_show_by_their_rates_and_turns(self):
        fast, slow, set_back = Clock(rate=100), Clock(first=-3, rate=-100), Clock(first=50)
        set_back.turn(-60)
        company = Company([fast, slow, set_back], few=0)
        self.assertEqual(company.readings(15), [16, 10, 5])
        self.assertEqual(company.apart(15), 11)
        self.assertEqual(shown(company, (0, 1, 2), 0), [0, -3, -10])

    def test_one_clock(self):
        company = Company(clocks(7), few=0)
        self.assertEqual((company.members(), company.honest()), ([0], [0]))
        self.assertEqual((company.readings(3), company.apart(3)), ([10], 0))
        self.assertEqual(company.meet(3, {}), [0])
        self.assertEqual(company.readings(3), [10])

    def test_sixteen_clocks(self):
        company = Company(clocks(*range(16)), few=5, liars=range_list(11, 16))
        self.assertEqual(company.members(), range_list(0, 16))
        self.assertEqual(company.honest(), range_list(0, 11))
        self.assertEqual(company.apart(0), 10)

    def test_one_more_than_twice_few_are_in(self):
        for few in range(6):
            company = Company(clocks(*range(2 * few + 1)), few=few)
            self.assertEqual(company.members(), range_list(0, 2 * few + 1))
            company = Company(clocks(*range(2 * few + 4)), few=few, waiting=(0, 1, 2))
            self.assertEqual(company.members(), range_list(3, 2 * few + 4))

    def test_shows_tells_of_those_that_wait_too(self):
        self.assertEqual(five().shows(4, 3), 903)
        self.assertEqual(five().shows(0, 3), 3)

    def test_beats_at_their_bounds(self):
        company = five()
        self.assertEqual(shown(company, (0, 4), 0), [0, 900])
        self.assertEqual(shown(company, (0, 4), 100000), [100000, 100900])
        self.assertEqual(company.readings(100000), [100000, 100010, 100020])


def range_list(low, high):
    return list(range(low, high))


class Meets(unittest.TestCase):
    def test_errors_and_lies_to_some(self):
        company = four()
        # House 0 reads 100, 115, 115, 0; house 1 reads 97, 110, 120, 1000; house 2 reads 100, 110, 120, 140.
        steps = company.meet(100, {(3, 0): 0, (3, 1): 1000}, offs={(1, 0): 5, (2, 0): -5, (0, 1): -3})
        self.assertEqual(steps, [7, 5, -5])
        self.assertEqual(company.readings(100), [107, 115, 115])
        self.assertEqual(company.apart(100), 8)

    def test_several_meetings(self):
        company = four()
        company.meet(100, {(3, 0): 0, (3, 1): 1000}, offs={(1, 0): 5, (2, 0): -5, (0, 1): -3})
        # All read 117, 125, 125 and what the liar's clock shows, 150: it is never turned.
        self.assertEqual(company.meet(110, {}), [8, 0, 0])
        self.assertEqual(company.readings(110), [125, 125, 125])
        # House 2 reads 215, 215, 215, 0.
        self.assertEqual(company.meet(200, {(3, 2): 0}, offs={(0, 2): 1}), [0, 0, 0])
        self.assertEqual(company.history(), [(100, [7, 5, -5]), (110, [8, 0, 0]), (200, [0, 0, 0])])

    def test_all_at_once(self):
        company = Company(clocks(0, 100), few=0)
        self.assertEqual(company.meet(0, {}), [50, -50])
        self.assertEqual(company.readings(0), [50, 50])

    def test_halves_are_rounded_down_below_0_too(self):
        company = Company(clocks(-1, 0), few=0)
        self.assertEqual(company.meet(0, {}), [0, -1])
        company = Company(clocks(-4, -1), few=0)
        self.assertEqual(company.meet(0, {}), [1, -2])
        company = Company(clocks(4, 1), few=0)
        self.assertEqual(company.meet(0, {}), [-2, 1])

    def test_the_error_is_of_who_is_read_and_who_reads(self):
        company = Company(clocks(0, 0), few=0, error=10)
        self.assertEqual(company.meet(0, {}, offs={(0, 1): 10}), [0, 5])
        company = Company(clocks(0, 0), few=0, error=10)
        self.assertEqual(company.meet(0, {}, offs={(1, 0): -10}), [-5, 0])

    def test_errors_as_large_as_told(self):
        for error, steps in ((1, [-1, 0]), (5, [-3, 2]), (100, [-50, 50])):
            company = Company(clocks(0, 0), few=0, error=error)
            self.assertEqual(company.meet(0, {}, offs={(0, 1): error, (1, 0): -error}), steps)

    def test_no_error_may_be_told_as_0(self):
        company = Company(clocks(0, 10, 20), few=1)
        self.assertEqual(company.meet(0, {}, offs={(0, 1): 0, (2, 1): 0}), [10, 0, -10])
        self.assertEqual(company.meet(0, {}, offs={}), [0, 0, 0])

    def test_errors_of_liars_and_of_those_that_wait_change_nothing(self):
        company, other = five(), five()
        offs = {(1, 0): 5, (1, 2): -5, (4, 0): 5, (0, 4): -5, (0, 1): 5, (2, 1): -5}
        self.assertEqual(company.meet(5, {(1, 2): 0}, offs=offs), other.meet(5, {(1, 2): 0}))
        self.assertEqual(state(company, (0, 2, 3, 4)), state(other, (0, 2, 3, 4)))

    def test_lies_to_liars_and_to_those_that_wait_change_nothing(self):
        company, other = five(), five()
        self.assertEqual(company.meet(5, {(1, 1): 500, (1, 4): -500, (1, 3): 9}), other.meet(5, {(1, 3): 9}))
        self.assertEqual(state(company, (0, 2, 3, 4)), state(other, (0, 2, 3, 4)))

    def test_who_waits_neither_reads_nor_is_read(self):
        company = five()
        # All that are in read 0, 7, 10, 20: of these 7 and 10 are left.
        self.assertEqual(company.meet(0, {}), [8, -2, -12])
        self.assertEqual(company.readings(0), [8, 8, 8])
        self.assertEqual(company.shows(4, 0), 900)

    def test_a_liar_that_lies_to_nobody_tells_what_its_clock_shows(self):
        company = Company([Clock(), Clock(first=10), Clock(first=6, rate=100)], few=1, liars=(2,))
        # At beat 20 the liar's clock shows 28: all read 20, 30, 28.
        self.assertEqual(company.meet(20, {}), [8, -2])

    def test_fewer_liars_than_few(self):
        company = Company(clocks(0, 10, 20, 30, 40), few=2, liars=(4,))
        self.assertEqual(company.meet(0, {(4, 0): -9, (4, 2): 12}), [10, 10, -8, -10])

    def test_few_0_leaves_nothing_out(self):
        company = Company(clocks(0, 1, 900), few=0)
        self.assertEqual(company.meet(0, {}), [450, 449, -450])

    def test_few_5(self):
        company = Company(clocks(*range(0, 160, 10)), few=5, liars=range_list(11, 16))
        lies = {(liar, house): 1000000 for liar in range(11, 16) for house in range(0, 11, 2)}
        lies.update({(liar, house): -1000000 for liar in range(11, 16) for house in range(1, 11, 2)})
        # Left are 50 to 100 where the liars are high, 0 to 50 where they are low.
        middles = [75, 25, 75, 25, 75, 25, 75, 25, 75, 25, 75]
        self.assertEqual(company.meet(0, lies), [there - 10 * house for house, there in enumerate(middles)])
        self.assertEqual(company.readings(0), middles)

    def test_at_the_beat_of_the_last_one(self):
        company = four()
        self.assertEqual(company.meet(50, {}), [15, 5, -5])
        self.assertEqual(company.meet(50, {(3, 0): 0}), [0, 0, 0])
        # House 0 reads 65, 69, 69, 90.
        self.assertEqual(company.meet(50, {}, offs={(1, 0): 4, (2, 0): 4}), [4, 0, 0])
        self.assertEqual([beat for beat, steps in company.history()], [50, 50, 50])

    def test_beats_at_their_bounds(self):
        company = four()
        self.assertEqual(company.meet(0, {}), [15, 5, -5])
        self.assertEqual(company.meet(100000, {}), [0, 0, 0])
        self.assertEqual(company.meet(100000, {}), [0, 0, 0])

    def test_lies_at_their_bounds(self):
        company = four()
        self.assertEqual(company.meet(0, {(3, 0): 1000000, (3, 1): -1000000}), [15, -5, -5])

    def test_readings_beyond_the_bounds_of_numbers(self):
        company = Company([Clock(first=1000000, rate=100), Clock(first=1000000), Clock(first=-1000000)], few=0)
        self.assertEqual(company.readings(100000), [1110000, 1100000, -900000])
        self.assertEqual(company.apart(100000), 2010000)
        self.assertEqual(company.meet(100000, {}), [-1005000, -995000, 1005000])

    def test_steps_of_more_than_a_turn(self):
        far = Clock(first=1000000)
        for turns in range(4):
            far.turn(2000000)
        company = Company([Clock(first=-1000000), far], few=0)
        self.assertEqual(company.apart(0), 10000000)
        self.assertEqual(company.meet(0, {}), [5000000, -5000000])
        self.assertEqual(company.readings(1), [4000001, 4000001])


class Enters(unittest.TestCase):
    def test_it_reads_all_that_are_in(self):
        company = Company(clocks(0, 10, 20, 1000), few=1, waiting=(3,))
        self.assertIsNone(company.enter(3, 50, {}))
        self.assertEqual(company.shows(3, 50), 60)
        self.assertEqual((company.members(), company.honest()), ([0, 1, 2, 3], [0, 1, 2, 3]))
        self.assertEqual(company.readings(50), [50, 60, 70, 60])

    def test_with_lies_and_errors(self):
        company = five()
        # It reads 100, what house 1 lies to it, 110 + 3, 120 - 5.
        company.enter(4, 100, {(1, 4): 114, (1, 0): 0}, offs={(2, 4): 3, (3, 4): -5, (4, 2): 1, (0, 2): 5})
        self.assertEqual(company.shows(4, 100), 113)
        self.assertEqual(company.readings(100), [100, 110, 120, 113])

    def test_without_a_lie_it_reads_the_liars_clock(self):
        company = five()
        # It reads 100, 107, 110, 120.
        company.enter(4, 100, {})
        self.assertEqual(company.shows(4, 100), 108)

    def test_halves_are_rounded_down_below_0_too(self):
        company = Company(clocks(-1, 0, 5), few=0, waiting=(2,))
        company.enter(2, 0, {})
        self.assertEqual(company.shows(2, 0), -1)

    def test_it_is_no_meeting(self):
        company = five()
        company.enter(4, 100, {})
        self.assertEqual(company.history(), [])
        company.meet(100, {})
        self.assertEqual([beat for beat, steps in company.history()], [100])

    def test_who_is_in_is_not_turned(self):
        company = five()
        company.enter(4, 100, {(1, 4): 5})
        self.assertEqual(shown(company, (0, 2, 3), 100), [100, 110, 120])

    def test_who_has_come_in_is_read(self):
        company = Company(clocks(0, 10, 20, 1000, 500), few=1, waiting=(3, 4))
        company.enter(3, 0, {})
        # House 4 reads 0, 10, 20 and 10.
        company.enter(4, 0, {}, offs={})
        self.assertEqual(shown(company, (3, 4), 0), [10, 10])
        self.assertEqual(company.meet(0, {}), [10, 0, -10, 0, 0])

    def test_a_beat_below_an_entering_is_none(self):
        company = five()
        company.enter(4, 100, {})
        with self.assertRaises(BadNumber):
            company.meet(99, {})
        company.leave(4)
        with self.assertRaises(BadNumber):
            company.enter(4, 99, {})
        company.enter(4, 100, {})
        self.assertEqual(company.members(), [0, 1, 2, 3, 4])

    def test_far_off(self):
        far = Clock(first=1000000)
        for turns in range(4):
            far.turn(2000000)
        company = Company(clocks(-1000000) + [far], few=0, waiting=(1,))
        company.enter(1, 7, {})
        self.assertEqual(company.shows(1, 7), -999993)


class Leaves(unittest.TestCase):
    def test_it_waits_from_then_on(self):
        company = five()
        self.assertIsNone(company.leave(2))
        self.assertEqual((company.members(), company.honest()), ([0, 1, 3], [0, 3]))
        self.assertEqual(company.readings(0), [0, 20])
        self.assertEqual(company.shows(2, 0), 10)
        # Both read 0, 7 and 20.
        self.assertEqual(company.meet(0, {}), [7, -13])
        self.assertEqual(company.shows(2, 0), 10)

    def test_waits_enters_meets_and_leaves_again(self):
        company = five()
        company.enter(4, 10, {})
        # House 4 has read 10, 17, 20, 30 and shows 18; all read 10, 17, 18, 20, 30: left are 17, 18, 20.
        self.assertEqual(company.shows(4, 10), 18)
        self.assertEqual(company.meet(10, {}), [8, -2, -12, 0])
        company.leave(4)
        company.leave(0)
        self.assertEqual((company.members(), company.honest()), ([1, 2, 3], [2, 3]))
        # House 2 reads 1000, 28, 28; house 3 reads 27, 28, 30.
        self.assertEqual(company.meet(20, {(1, 2): 1000}, offs={(2, 3): 2}), [0, 0])
        # House 0 reads 57, 57, 52 of houses 1, 2, 3.
        company.enter(0, 50, {(1, 0): 57}, offs={(2, 0): -1, (3, 0): -5})
        self.assertEqual(company.shows(0, 50), 57)
        self.assertEqual(company.members(), [0, 1, 2, 3])
        company.enter(4, 50, {})
        self.assertEqual(company.members(), [0, 1, 2, 3, 4])
        self.assertEqual([beat for beat, steps in company.history()], [10, 20])

    def test_just_so_many_must_be_left(self):
        for few in range(6):
            company = Company(clocks(*range(2 * few + 2)), few=few)
            company.leave(0)
            self.assertEqual(company.members(), range_list(1, 2 * few + 2))
            for house in range(1, 2 * few + 2):
                with self.assertRaises(NotNow):
                    company.leave(house)
            self.assertEqual(company.members(), range_list(1, 2 * few + 2))
            company.enter(0, 0, {})
            company.leave(2 * few + 1)
            self.assertEqual(company.members(), range_list(0, 2 * few + 1))

    def test_the_last_beat_stays(self):
        company = five()
        company.meet(30, {})
        company.leave(0)
        with self.assertRaises(BadNumber):
            company.meet(29, {})
        company.meet(30, {})


class AfterMeeting(unittest.TestCase):
    def test_ordinary(self):
        for apart, error, told in ((7, 0, 4), (8, 0, 4), (7, 1, 6), (8, 1, 6), (9, 1, 7), (20, 5, 20), (100, 3, 56)):
            self.assertEqual(after_meeting(apart, error=error), told)

    def test_the_edges(self):
        for apart, error, told in ((0, 0, 0), (1, 0, 1), (0, 1, 2), (0, 100, 200), (10000000, 0, 5000000),
                                   (9999999, 0, 5000000), (10000000, 100, 5000200)):
            self.assertEqual(after_meeting(apart, error=error), told)

    def test_refusals(self):
        for apart in NO_WHOLE + (-1, 10000001, 10 ** 5000, -10 ** 5000):
            for error in (0, 100, None):
                with self.assertRaises(BadNumber):
                    after_meeting(apart, error=error)
        for error in NO_ERROR:
            with self.assertRaises(BadNumber):
                after_meeting(10, error=error)

    def test_error_is_handed_in_by_its_name_alone(self):
        with self.assertRaises(TypeError):
            after_meeting(10, 1)
        with self.assertRaises(TypeError):
            after_meeting(10)

    def test_no_meeting_passes_it(self):
        chance = random.Random(9)
        for run in range(150):
            few = chance.randrange(0, 4)
            many = 3 * few + 1 + chance.randrange(0, 3)
            liars = sorted(chance.sample(range(many), few))
            error = chance.choice((0, 1, 2, 7))
            spread = chance.choice((0, 1, 9, 100))
            company = Company([Clock(first=chance.randint(0, spread)) for house in range(many)],
                              few=few, error=error, liars=liars)
            for beat in range(4):
                offs = {pair: chance.choice((-error, error)) for pair in itertools.permutations(range(many), 2)}
                lies = {(liar, house): chance.choice((-50, beat, beat + 3, beat + spread, 900))
                        for liar in liars for house in range(many)}
                before = company.apart(beat)
                company.meet(beat, lies, offs=offs)
                self.assertLessEqual(company.apart(beat), after_meeting(before, error=error))

    def test_some_meeting_reaches_it(self):
        # House 0 reads 0, 7, 100, 3 and house 1 reads -2, 5, -100, -1: left are 3 and 7, and -2 and -1.
        company = Company(clocks(0, 5, 0, 1), few=1, error=2, liars=(2,))
        offs = {(1, 0): 2, (3, 0): 2, (0, 1): -2, (3, 1): -2}
        self.assertEqual(company.meet(0, {(2, 0): 100, (2, 1): -100}, offs=offs), [5, -7, -1])
        self.assertEqual(company.apart(0), 7)
        self.assertEqual(after_meeting(5, error=2), 7)


class Steady(unittest.TestCase):
    def test_ordinary(self):
        for error, rate, beats, told in ((3, 1, 1001, 18), (0, 1, 1000, 4), (5, 100, 10, 24), (1, 2, 2500, 16)):
            self.assertEqual(steady(error=error, rate=rate, beats=beats), told)

    def test_the_edges(self):
        for error, rate, beats, told in ((0, 0, 0, 2), (0, 0, 100000, 2), (0, 100, 0, 2), (100, 0, 0, 402),
                                         (100, 100, 100000, 20402), (0, 1, 1, 4)):
            self.assertEqual(steady(error=error, rate=rate, beats=beats), told)

    def test_it_is_the_least_that_is_not_passed(self):
        for error, rate, beats in itertools.product((0, 1, 7), (0, 1, 100), (0, 1, 10, 999)):
            added = 2 * drift_in(beats, rate=rate)
            told = next(far for far in range(1000) if after_meeting(far + added, error=error) <= far)
            self.assertEqual(steady(error=error, rate=rate, beats=beats), told)

    def test_refusals(self):
        for error in NO_ERROR:
            with self.assertRaises(BadNumber):
                steady(error=error, rate=1, beats=1)
        for rate in NO_WHOLE + (-1, 101, 10 ** 5000):
            with self.assertRaises(BadNumber):
                steady(error=1, rate=rate, beats=1)
        for beats in NO_BEAT:
            with self.assertRaises(BadNumber):
                steady(error=1, rate=1, beats=beats)

    def test_all_are_handed_in_by_their_names_alone(self):
        with self.assertRaises(TypeError):
            steady(1, 1, 1)
        with self.assertRaises(TypeError):
            steady(error=1, rate=1)


class RefusedWhenMade(unittest.TestCase):
    def refused(self, refusal, *things, **named):
        with self.assertRaises(refusal):
            Company(*things, **named)

    def test_no_list_of_clocks(self):
        for thing in NO_LIST + ([], tuple(clocks(1, 2, 3)), {0: Clock()}, Clock(), clocks(*range(17)), [Clock]):
            self.refused(BadHouses, thing, few=0)
            self.refused(BadHouses, thing, few=None, error=None, liars=None, waiting=None)

    def test_things_that_are_no_clocks_among_clocks(self):
        for thing in NO_WHOLE + (0, 5, Company(clocks(1), few=0)):
            self.refused(BadHouses, [thing], few=0)
            self.refused(BadHouses, clocks(1, 2) + [thing], few=0)
            self.refused(BadHouses, [thing] + clocks(1, 2), few=9)

    def test_no_few(self):
        for few in NO_FEW:
            self.refused(BadNumber, clocks(*range(16)), few=few)
            self.refused(BadNumber, clocks(1), few=few, error=None, liars=None, waiting=None)

    def test_no_error(self):
        for error in NO_ERROR:
            self.refused(BadNumber, clocks(1, 2, 3), few=1, error=error)
            self.refused(BadNumber, clocks(1, 2, 3), few=5, error=error, liars=None, waiting=None)

    def test_no_liars(self):
        for liars in NO_ROW + ([3], [-1], [0, 1], [True], [None], ["0"], [[0]], [10 ** 5000], (None,)):
            self.refused(BadHouses, clocks(1, 2, 3), few=1, liars=liars)
        for liars in ([0, 1, 2], [1, 0], [2, 2], [0, True], [0, 5]):
            self.refused(BadHouses, clocks(1, 2, 3, 4, 5), few=2, liars=liars)

    def test_nobody_that_waits(self):
        for waiting in NO_ROW + ([5], [-1], [0, 0], [1, 0], [True], [None], ["0"], [[0]], [10 ** 5000], (0, None)):
            self.refused(BadHouses, clocks(1, 2, 3, 4, 5), few=0, waiting=waiting)

    def test_liars_that_wait(self):
        for waiting in ([1], [0, 1], (1, 2)):
            self.refused(BadHouses, clocks(*range(8)), few=1, liars=[1], waiting=waiting)

    def test_not_more_than_twice_few_are_in(self):
        for few in range(1, 6):
            self.refused(BadHouses, clocks(*range(2 * few)), few=few)
            self.refused(BadHouses, clocks(*range(2 * few + 1)), few=few, waiting=(0,))
        self.refused(BadHouses, clocks(1, 2), few=0, waiting=(0, 1))
        self.refused(BadHouses, clocks(1), few=5)

    def test_all_but_clocks_are_handed_in_by_their_names_alone(self):
        self.refused(TypeError, clocks(1, 2, 3), 1)
        self.refused(TypeError, clocks(1, 2, 3))


class Refused(unittest.TestCase):
    """House 1 lies, house 4 waits; a meeting was at beat 20."""

    def setUp(self):
        self.company = five()
        self.company.meet(20, {(1, 0): 4}, offs={(2, 3): 5})
        self.before = state(self.company, (0, 2, 3, 4))

    def refused(self, refusal, deed, *things, **named):
        with self.assertRaises(refusal) as taken:
            deed(*things, **named)
        self.assertEqual(state(self.company, (0, 2, 3, 4)), self.before)
        return taken.exception

    def test_no_beat(self):
        for beat in NO_BEAT:
            self.refused(BadNumber, self.company.shows, 0, beat)
            self.refused(BadNumber, self.company.readings, beat)
            self.refused(BadNumber, self.company.apart, beat)

    def test_beats_below_the_last_one_are_shown(self):
        self.assertEqual(self.company.shows(4, 0), 900)
        self.assertEqual(len(self.company.readings(19)), 3)

    def test_no_house(self):
        for house in NO_WHOLE + (1, -1, 5, 10 ** 5000):
            for beat in (20, None):
                self.assertIs(self.refused(NoHouse, self.company.shows, house, beat).house, house)
                self.assertIs(self.refused(NoHouse, self.company.enter, house, beat, None, offs=5).house, house)
            self.assertIs(self.refused(NoHouse, self.company.leave, house).house, house)
            self.assertIs(self.refused(NoHouse, self.company.enter, house, 20, {}).house, house)

    def test_no_beat_of_a_meeting(self):
        for beat in NO_BEAT + (0, 19):
            self.refused(BadNumber, self.company.meet, beat, {})
            self.refused(BadNumber, self.company.meet, beat, None, offs=5)
            self.refused(BadNumber, self.company.enter, 4, beat, {})
            self.refused(BadNumber, self.company.enter, 4, beat, None, offs=5)

    def test_no_beat_of_the_first_meeting(self):
        company = four(waiting=(0,))
        for beat in NO_BEAT:
            with self.assertRaises(BadNumber):
                company.meet(beat, None)
            with self.assertRaises(BadNumber):
                company.enter(0, beat, None)
        self.assertEqual((company.members(), company.history()), ([1, 2, 3], []))

    def no_lies(self, lies):
        self.refused(BadLies, self.company.meet, 20, lies)
        self.refused(BadLies, self.company.meet, 20, lies, offs={(0, 0): 1})
        self.refused(BadLies, self.company.enter, 4, 20, lies)

    def no_offs(self, offs):
        self.refused(BadLies, self.company.meet, 20, {}, offs=offs)
        self.refused(BadLies, self.company.meet, 20, None, offs=offs)
        self.refused(BadLies, self.company.enter, 4, 20, {(1, 4): 1}, offs=offs)

    def test_no_lies(self):
        for lies in NO_DICT:
            self.no_lies(lies)
        for key in NO_KEY:
            self.no_lies({key: 5})
            self.no_lies({(1, 0): 5, key: 5})

    def test_lies_of_no_liar_or_to_no_house(self):
        for key in ((0, 1), (4, 0), (2, 3), (5, 0), (-1, 0), (True, 0), (1, True), (1, 5), (1, -1), (1, None),
                    ("1", 0), (None, 0), (1, "0"), (10 ** 5000, 0), (1, 10 ** 5000)):
            self.no_lies({key: 5})

    def test_lies_that_are_no_numbers(self):
        for thing in NO_NUMBER:
            self.no_lies({(1, 0): thing})
            self.no_lies({(1, 2): 5, (1, 4): thing})

    def test_no_errors(self):
        for offs in NO_DICT:
            if offs is not None:
                self.no_offs(offs)
        for key in NO_KEY:
            self.no_offs({key: 1})
            self.no_offs({(1, 0): 1, key: 0})

    def test_errors_of_like_houses_or_of_none(self):
        for key in ((0, 0), (1, 1), (4, 4), (5, 0), (0, 5), (-1, 0), (0, -1), (True, 0), (0, True), (None, 0), (0, "1"),
                    (10 ** 5000, 0)):
            self.no_offs({key: 0})

    def test_errors_that_are_too_large(self):
        for thing in NO_WHOLE + (6, -6, 10 ** 5000, -10 ** 5000):
            self.no_offs({(0, 2): thing})
            self.no_offs({(0, 2): 1, (2, 4): thing})

    def test_without_an_error_all_errors_are_too_large(self):
        company = Company(clocks(0, 10, 20), few=1)
        for off in (1, -1):
            with self.assertRaises(BadLies):
                company.meet(0, {}, offs={(0, 1): off})
        self.assertEqual(company.readings(0), [0, 10, 20])

    def test_without_liars_there_are_no_lies(self):
        company = Company(clocks(0, 10, 20), few=1)
        with self.assertRaises(BadLies):
            company.meet(0, {(0, 1): 5})
        self.assertEqual(company.history(), [])

    def test_one_that_is_in_does_not_enter(self):
        for house in (0, 2, 3):
            self.refused(NotNow, self.company.enter, house, 20, {})
            self.refused(NotNow, self.company.enter, house, None, None, offs=5)

    def test_one_that_waits_does_not_leave(self):
        self.refused(NotNow, self.company.leave, 4)

    def test_too_few_would_be_left(self):
        company = four()
        company.leave(0)
        for house in (1, 2):
            with self.assertRaises(NotNow):
                company.leave(house)
        self.assertEqual(company.members(), [1, 2, 3])

    def test_behind_refusals_all_goes_on_as_without_them(self):
        other = five()
        other.meet(20, {(1, 0): 4}, offs={(2, 3): 5})
        self.refused(BadLies, self.company.meet, 90, {(1, 0): 999, (1, 9): 1})
        self.refused(BadLies, self.company.enter, 4, 90, {(1, 4): 0}, offs={(0, 4): 5, (2, 4): 6})
        for company in (self.company, other):
            company.enter(4, 20, {(1, 4): 7})
            company.meet(21, {(1, 3): 7}, offs={(0, 4): -5})
        self.assertEqual(state(self.company, (0, 2, 3, 4)), state(other, (0, 2, 3, 4)))


class NothingIsChanged(unittest.TestCase):
    def test_what_was_handed_in_is_as_it_was(self):
        handed, liars, waiting = clocks(0, 7, 10, 20, 900), [1], [4]
        kept = list(handed)
        company = Company(handed, few=1, error=5, liars=liars, waiting=waiting)
        lies, offs = {(1, 0): -100, (1, 4): 3}, {(0, 2): 5, (2, 4): -5}
        company.enter(4, 5, lies, offs=offs)
        company.meet(6, lies, offs=offs)
        company.leave(0)
        self.assertEqual((liars, waiting), ([1], [4]))
        self.assertEqual((lies, offs), ({(1, 0): -100, (1, 4): 3}, {(0, 2): 5, (2, 4): -5}))
        self.assertEqual(handed, kept)
        self.assertEqual([clock.shows(0) for clock in handed], [0, 7, 10, 20, 900])

    def test_what_is_kept_is_a_copy(self):
        handed, liars, waiting = clocks(0, 7, 10, 20, 900), [1], [4]
        company = Company(handed, few=1, error=5, liars=liars, waiting=waiting)
        before = state(company, (0, 2, 3, 4))
        for clock in handed:
            clock.turn(77)
        handed.clear()
        liars.clear()
        waiting[0] = 0
        self.assertEqual(state(company, (0, 2, 3, 4)), before)
        self.assertEqual(company.meet(0, {}), [8, -2, -12])

    def test_a_liars_clock_is_a_copy_too(self):
        handed = clocks(0, 7, 10, 20)
        company = Company(handed, few=1, liars=(1,))
        handed[1].turn(5)
        self.assertEqual(company.meet(0, {}), [8, -2, -12])

    def test_one_clock_for_several_houses_is_set_for_each_by_itself(self):
        clock = Clock(first=10)
        company = Company([clock, clock, Clock(first=40), clock], few=0, error=10, waiting=(3,))
        self.assertEqual(company.meet(0, {}, offs={(2, 1): 10}), [15, 20, -15])
        self.assertEqual(shown(company, (0, 1, 2, 3), 0), [25, 30, 25, 10])
        self.assertEqual(clock.shows(0), 10)

    def test_two_companies_are_set_each_by_itself(self):
        handed = clocks(0, 10)
        company, other = Company(handed, few=0), Company(handed, few=0)
        company.meet(0, {})
        self.assertEqual((company.readings(0), other.readings(0)), ([5, 5], [0, 10]))

    def test_what_is_told_is_new(self):
        company = five()
        steps = company.meet(3, {})
        before = state(company, (0, 2, 3, 4))
        steps.clear()
        company.members().append(9)
        company.honest().clear()
        company.readings(3)[0] = 99
        company.history().clear()
        company.history()[0][1].append(5)
        self.assertEqual(state(company, (0, 2, 3, 4)), before)
        self.assertEqual(company.history(), [(3, [8, -2, -12])])

    def test_what_was_told_stays(self):
        company = five()
        told = (company.members(), company.honest(), company.readings(0), company.history())
        company.enter(4, 0, {})
        company.meet(0, {})
        company.leave(0)
        self.assertEqual(told, ([0, 1, 2, 3], [0, 2, 3], [0, 10, 20], []))


if __name__ == "__main__":
    unittest.main()

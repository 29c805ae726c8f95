import itertools
import random
import unittest

from liarclocks.errors import BadHouses, BadNumber, NoHouse, NoLetter, NotNow
from liarclocks.pulses import Pulse
from things import NO_FEW, NO_ROW, NO_WHOLE

NO_ROUND = NO_WHOLE + (0, -1, 100, 10 ** 5000, -10 ** 5000)
NO_HOUSES = NO_WHOLE + (0, -1, 17, 10 ** 5000, -10 ** 5000)


def four():
    """House 3 lies."""
    return Pulse(4, few=1, liars=(3,))


def seven():
    """Houses 5 and 6 lie."""
    return Pulse(7, few=2, liars=(5, 6))


def said(pulse):
    return [(house, count) for house in pulse.honest() for count in range(1, 100) if pulse.has_said(house, count)]


def state(pulse):
    strikes = [pulse.strikes(house) for house in pulse.honest()]
    return (pulse.honest(), pulse.letters(), said(pulse), strikes, pulse.all_strikes())


def bring(pulse, letter):
    """Let the oldest such letter come."""
    return pulse.come(pulse.letters().index(letter))


def bring_all(pulse, pick=lambda letters: 0):
    """Let letters come till none is on its way."""
    while pulse.letters():
        pulse.come(pick(pulse.letters()))


def lied_from(pulse, liars, house, count):
    for liar in liars:
        pulse.lie(liar, house, count)
        pulse.come(len(pulse.letters()) - 1)


class Made(unittest.TestCase):
    def test_nothing_is_written_at_first(self):
        self.assertEqual(state(four()), ([0, 1, 2], [], [], [[], [], []], []))

    def test_liars_may_be_left_out(self):
        self.assertEqual(Pulse(4, few=1).honest(), [0, 1, 2, 3])

    def test_liars_are_a_list_or_a_tuple(self):
        for liars in ([0, 4], (0, 4)):
            self.assertEqual(Pulse(7, few=2, liars=liars).honest(), [1, 2, 3, 5, 6])

    def test_one_more_than_three_times_few(self):
        for few in range(6):
            self.assertEqual(Pulse(3 * few + 1, few=few).honest(), list(range(3 * few + 1)))

    def test_one_and_sixteen_houses(self):
        self.assertEqual(Pulse(1, few=0).honest(), [0])
        self.assertEqual(Pulse(16, few=5, liars=[1, 2, 3, 4, 15]).honest(), [0, 5, 6, 7, 8, 9, 10, 11, 12, 13, 14])


class Ready(unittest.TestCase):
    def test_it_writes_to_all_honest_houses(self):
        pulse = four()
        self.assertIsNone(pulse.ready(1, 7))
        self.assertEqual(pulse.letters(), [(1, 0, 7), (1, 1, 7), (1, 2, 7)])
        self.assertTrue(pulse.has_said(1, 7))
        self.assertFalse(pulse.has_said(0, 7))
        self.assertFalse(pulse.has_said(1, 8))

    def test_the_oldest_first(self):
        pulse = four()
        pulse.ready(2, 99)
        pulse.ready(0, 1)
        self.assertEqual(pulse.letters(), [(2, 0, 99), (2, 1, 99), (2, 2, 99), (0, 0, 1), (0, 1, 1), (0, 2, 1)])

    def test_several_rounds_of_one_house(self):
        pulse = four()
        for count in (1, 99, 50):
            pulse.ready(0, count)
        self.assertEqual([count for sender, house, count in pulse.letters()], [1] * 3 + [99] * 3 + [50] * 3)

    def test_once(self):
        pulse = four()
        pulse.ready(1, 7)
        before = state(pulse)
        with self.assertRaises(NotNow):
            pulse.ready(1, 7)
        self.assertEqual(state(pulse), before)
        bring_all(pulse)
        with self.assertRaises(NotNow):
            pulse.ready(1, 7)

    def test_behind_the_letters_of_others(self):
        pulse = seven()
        for house in (0, 1, 2):
            pulse.ready(house, 4)
            bring(pulse, (house, 3, 4))
        self.assertTrue(pulse.has_said(3, 4))
        before = state(pulse)
        with self.assertRaises(NotNow):
            pulse.ready(3, 4)
        self.assertEqual(state(pulse), before)
        pulse.ready(3, 5)

    def test_ready_ahead_of_the_letters_of_others_it_does_not_write_again(self):
        pulse = four()
        for house in (0, 1, 2):
            pulse.ready(house, 4)
        self.assertEqual(len(pulse.letters()), 9)
        bring_all(pulse)
        self.assertEqual(said(pulse), [(0, 4), (1, 4), (2, 4)])
        self.assertEqual(pulse.all_strikes(), [(0, 4), (1, 4), (2, 4)])


class Lie(unittest.TestCase):
    def test_to_whom_it_likes(self):
        pulse = four()
        self.assertIsNone(pulse.lie(3, 1, 9))
        pulse.lie(3, 0, 8)
        pulse.lie(3, 1, 9)
        self.assertEqual(pulse.letters(), [(3, 1, 9), (3, 0, 8), (3, 1, 9)])
        self.assertEqual(said(pulse), [])

    def test_rounds_at_their_bounds(self):
        pulse = four()
        pulse.lie(3, 1, 1)
        pulse.lie(3, 1, 99)
        self.assertEqual(pulse.letters(), [(3, 1, 1), (3, 1, 99)])


class Come(unittest.TestCase):
    def test_it_tells_the_letter_at_that_place(self):
        pulse = four()
        pulse.ready(1, 7)
        pulse.lie(3, 0, 5)
        self.assertEqual(pulse.come(2), (1, 2, 7))
        self.assertEqual(pulse.letters(), [(1, 0, 7), (1, 1, 7), (3, 0, 5)])
        self.assertEqual(pulse.come(2), (3, 0, 5))
        self.assertEqual(pulse.come(0), (1, 0, 7))
        self.assertEqual(pulse.come(0), (1, 1, 7))
        self.assertEqual(pulse.letters(), [])

    def test_just_few_one_more_twice_few_and_one_more(self):
        pulse = seven()
        for house in (0, 1):
            pulse.ready(house, 4)
            bring(pulse, (house, 3, 4))
        self.assertFalse(pulse.has_said(3, 4))
        written = pulse.letters()
        lied_from(pulse, (5,), 3, 4)
        self.assertTrue(pulse.has_said(3, 4))
        self.assertEqual(pulse.letters(), written + [(3, house, 4) for house in range(5)])
        self.assertEqual(pulse.all_strikes(), [])
        lied_from(pulse, (6,), 3, 4)
        self.assertEqual(pulse.strikes(3), [])
        self.assertEqual(bring(pulse, (3, 3, 4)), (3, 3, 4))
        self.assertEqual(pulse.strikes(3), [4])
        self.assertEqual(pulse.all_strikes(), [(3, 4)])
        self.assertEqual(pulse.letters(), written + [(3, house, 4) for house in (0, 1, 2, 4)])

    def test_the_thresholds_for_each_few(self):
        for few in range(6):
            houses = 3 * few + 1
            pulse = Pulse(houses, few=few)
            for many in range(1, houses):
                pulse.ready(many, 2)
                bring(pulse, (many, 0, 2))
                self.assertEqual(pulse.has_said(0, 2), many > few)
                self.assertEqual(pulse.strikes(0), [2] if many > 2 * few else [])

    def test_few_0_writes_and_strikes_with_the_first_letter(self):
        pulse = Pulse(2, few=0)
        pulse.ready(0, 5)
        self.assertEqual(pulse.come(1), (0, 1, 5))
        self.assertEqual(pulse.letters(), [(0, 0, 5), (1, 0, 5), (1, 1, 5)])
        self.assertEqual(pulse.all_strikes(), [(1, 5)])
        bring_all(pulse)
        self.assertEqual(pulse.all_strikes(), [(1, 5), (0, 5)])

    def test_one_house_by_itself(self):
        pulse = Pulse(1, few=0)
        pulse.ready(0, 99)
        self.assertEqual(pulse.strikes(0), [])
        self.assertEqual(pulse.come(0), (0, 0, 99))
        self.assertEqual((pulse.strikes(0), pulse.letters()), ([99], []))

    def test_letters_of_one_house_count_once(self):
        pulse = seven()
        lied_from(pulse, (5, 5, 5, 6, 6, 5), 0, 4)
        self.assertFalse(pulse.has_said(0, 4))
        pulse.ready(1, 4)
        bring(pulse, (1, 0, 4))
        self.assertTrue(pulse.has_said(0, 4))
        lied_from(pulse, (5, 6, 5, 6), 0, 4)
        self.assertEqual(pulse.strikes(0), [])
        bring(pulse, (0, 0, 4))
        self.assertEqual(pulse.strikes(0), [])
        pulse.ready(2, 4)
        bring(pulse, (2, 0, 4))
        self.assertEqual(pulse.strikes(0), [4])
        lied_from(pulse, (5, 6), 0, 4)
        self.assertEqual(pulse.all_strikes(), [(0, 4)])

    def test_each_round_by_itself(self):
        pulse = seven()
        lied_from(pulse, (5, 6), 0, 4)
        lied_from(pulse, (5, 6), 0, 5)
        pulse.ready(1, 6)
        bring(pulse, (1, 0, 6))
        self.assertEqual(said(pulse), [(1, 6)])

    def test_each_house_by_itself(self):
        pulse = seven()
        lied_from(pulse, (5, 6), 0, 4)
        lied_from(pulse, (5, 6), 1, 4)
        pulse.ready(2, 4)
        bring(pulse, (2, 0, 4))
        self.assertEqual(said(pulse), [(0, 4), (2, 4)])

    def test_liars_alone_bring_nothing_about(self):
        pulse = seven()
        for liar, house, count in itertools.product((5, 6), range(5), range(1, 100)):
            pulse.lie(liar, house, count)
        bring_all(pulse)
        self.assertEqual((said(pulse), pulse.all_strikes()), ([], []))

    def test_strikes_in_turn(self):
        pulse = four()
        for house, count in itertools.product((0, 1, 2), (50, 3)):
            pulse.ready(house, count)
        for house, count in ((1, 3), (0, 50), (1, 50), (2, 3), (0, 3), (2, 50)):
            for sender in (2, 0, 1):
                bring(pulse, (sender, house, count))
        self.assertEqual(pulse.all_strikes(), [(1, 3), (0, 50), (1, 50), (2, 3), (0, 3), (2, 50)])
        self.assertEqual([pulse.strikes(house) for house in (0, 1, 2)], [[50, 3], [3, 50], [3, 50]])

    def test_a_house_writes_by_others_and_strikes_by_its_own_letter(self):
        pulse = four()
        pulse.ready(0, 1)
        pulse.lie(3, 1, 1)
        self.assertEqual(pulse.come(3), (3, 1, 1))
        self.assertEqual(pulse.come(1), (0, 1, 1))
        self.assertEqual(pulse.letters(), [(0, 0, 1), (0, 2, 1), (1, 0, 1), (1, 1, 1), (1, 2, 1)])
        self.assertEqual(pulse.all_strikes(), [])
        self.assertEqual(pulse.come(3), (1, 1, 1))
        self.assertEqual(pulse.all_strikes(), [(1, 1)])
        # With the letters of houses 0 and 1 house 2 writes, and that letter comes to house 0 first.
        bring_all(pulse)
        self.assertEqual(pulse.all_strikes(), [(1, 1), (0, 1), (2, 1)])

    def test_in_all_orders_who_strikes_is_followed_by_all(self):
        for order in itertools.permutations(range(6)):
            pulse = four()
            pulse.lie(3, 0, 1)
            pulse.lie(3, 1, 1)
            pulse.ready(0, 1)
            pulse.ready(2, 1)
            bring_all(pulse, pick=lambda letters: order[len(letters) % 6] % len(letters))
            self.assertEqual(sorted(pulse.all_strikes()), [(0, 1), (1, 1), (2, 1)])

    def test_by_chance_all_strike_or_none(self):
        chance = random.Random(11)
        for run in range(100):
            few = chance.randrange(1, 4)
            houses = 3 * few + 1
            liars = sorted(chance.sample(range(houses), few))
            pulse = Pulse(houses, few=few, liars=liars)
            starts = chance.sample(pulse.honest(), chance.randrange(0, few + 2))
            for house in starts:
                pulse.ready(house, 1)
            for liar, house in itertools.product(liars, pulse.honest()):
                if chance.random() < 0.5:
                    pulse.lie(liar, house, 1)
            bring_all(pulse, pick=lambda letters: chance.randrange(len(letters)))
            strikers = sorted(house for house, count in pulse.all_strikes())
            self.assertIn(strikers, [[], pulse.honest()])
            if not starts:
                self.assertEqual(strikers, [])
            if len(starts) > few:
                self.assertEqual(strikers, pulse.honest())


class HasSaid(unittest.TestCase):
    def test_of_no_round_it_tells_false(self):
        pulse = four()
        pulse.ready(1, 1)
        for count in NO_ROUND:
            self.assertIs(pulse.has_said(1, count), False)
        self.assertIs(pulse.has_said(1, 1), True)
        self.assertIs(pulse.has_said(1, 2), False)


class RefusedWhenMade(unittest.TestCase):
    def refused(self, refusal, *things, **named):
        with self.assertRaises(refusal):
            Pulse(*things, **named)

    def test_no_houses(self):
        for houses in NO_HOUSES:
            self.refused(BadNumber, houses, few=0)
            self.refused(BadNumber, houses, few=5, liars=None)
            self.refused(BadNumber, houses, few=None)

    def test_no_few(self):
        for few in NO_FEW:
            self.refused(BadNumber, 16, few=few)
            self.refused(BadNumber, 1, few=few, liars=None)

    def test_no_more_than_three_times_few(self):
        for few in range(1, 6):
            self.refused(BadHouses, 3 * few, few=few)
            self.refused(BadHouses, 1, few=few, liars=None)

    def test_no_liars(self):
        for liars in NO_ROW + ([7], [-1], [0, 0], [1, 0], [0, 1, 2], [True], [None], ["0"], [[0]], [10 ** 5000], (9,)):
            self.refused(BadHouses, 7, few=2, liars=liars)
        self.refused(BadHouses, 4, few=0, liars=[0])

    def test_few_and_liars_are_handed_in_by_their_names_alone(self):
        self.refused(TypeError, 4, 1)
        self.refused(TypeError, 4)


class Refused(unittest.TestCase):
    """House 0 has written round 1, and house 3 lies."""

    def setUp(self):
        self.pulse = four()
        self.pulse.ready(0, 1)
        self.pulse.lie(3, 1, 1)
        self.pulse.come(1)
        self.before = state(self.pulse)

    def refused(self, refusal, deed, *things):
        with self.assertRaises(refusal) as taken:
            deed(*things)
        self.assertEqual(state(self.pulse), self.before)
        return taken.exception

    def test_no_honest_house(self):
        for house in NO_WHOLE + (3, -1, 4, 10 ** 5000):
            for count in (1, 5, None, 100):
                self.assertIs(self.refused(NoHouse, self.pulse.ready, house, count).house, house)
                self.assertIs(self.refused(NoHouse, self.pulse.lie, 3, house, count).house, house)
                self.assertIs(self.refused(NoHouse, self.pulse.has_said, house, count).house, house)
            self.assertIs(self.refused(NoHouse, self.pulse.strikes, house).house, house)

    def test_no_liar(self):
        for liar in NO_WHOLE + (0, 1, 2, -1, 4, 10 ** 5000):
            for house, count in ((0, 5), (3, 5), (None, None), (9, 100)):
                self.assertIs(self.refused(NoHouse, self.pulse.lie, liar, house, count).house, liar)

    def test_true_and_false_are_no_liars(self):
        pulse = Pulse(7, few=2, liars=(0, 1))
        for liar in (False, True):
            with self.assertRaises(NoHouse) as taken:
                pulse.lie(liar, 2, 1)
            self.assertIs(taken.exception.house, liar)
        self.assertEqual(pulse.letters(), [])

    def test_no_round(self):
        for count in NO_ROUND:
            self.refused(BadNumber, self.pulse.ready, 0, count)
            self.refused(BadNumber, self.pulse.ready, 1, count)
            self.refused(BadNumber, self.pulse.lie, 3, 0, count)

    def test_no_letter(self):
        for at in NO_WHOLE + (-1, -3, 3, 100, 10 ** 5000, -10 ** 5000):
            self.refused(NoLetter, self.pulse.come, at)

    def test_no_letter_where_none_is_on_its_way(self):
        pulse = four()
        for at in (0, -1, 1, None):
            with self.assertRaises(NoLetter):
                pulse.come(at)
        self.assertEqual(state(pulse), state(four()))

    def test_behind_refusals_all_goes_on_as_without_them(self):
        other = four()
        other.ready(0, 1)
        other.lie(3, 1, 1)
        other.come(1)
        self.refused(NotNow, self.pulse.ready, 0, 1)
        self.refused(BadNumber, self.pulse.lie, 3, 1, 0)
        self.refused(NoLetter, self.pulse.come, 3)
        for pulse in (self.pulse, other):
            pulse.ready(2, 1)
            bring_all(pulse)
        self.assertEqual(state(self.pulse), state(other))
        # House 1 has letters of 0, 3 and 2 ahead of the others.
        self.assertEqual(self.pulse.all_strikes(), [(1, 1), (0, 1), (2, 1)])


class NothingIsChanged(unittest.TestCase):
    def test_liars_are_kept_as_a_copy(self):
        liars = [3]
        pulse = Pulse(4, few=1, liars=liars)
        liars[0] = 0
        self.assertEqual(pulse.honest(), [0, 1, 2])
        pulse.ready(0, 1)
        pulse.lie(3, 0, 1)
        self.assertEqual(liars, [0])

    def test_what_is_told_is_new(self):
        pulse = Pulse(1, few=0)
        pulse.ready(0, 1)
        pulse.come(0)
        pulse.ready(0, 2)
        before = state(pulse)
        pulse.honest().clear()
        pulse.letters().clear()
        pulse.strikes(0).append(5)
        pulse.all_strikes().append((0, 5))
        self.assertEqual(state(pulse), before)

    def test_what_was_told_stays(self):
        pulse = Pulse(1, few=0)
        pulse.ready(0, 1)
        told = (pulse.letters(), pulse.strikes(0), pulse.all_strikes())
        pulse.come(0)
        self.assertEqual(told, ([(0, 0, 1)], [], []))

    def test_two_are_apart(self):
        pulse, other = four(), four()
        pulse.ready(0, 1)
        bring_all(pulse)
        self.assertEqual(state(other), state(four()))


if __name__ == "__main__":
    unittest.main()

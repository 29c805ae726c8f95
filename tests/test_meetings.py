import itertools
import unittest

from liarclocks.errors import BadHouses, BadLies, BadNumber, BadWorths, NoHouse
from liarclocks.meetings import Meeting, rounds_for, stuck
from things import NO_DICT, NO_FEW, NO_LIST, NO_NUMBER, NO_ROW, NO_WHOLE

FOUR = [0, 10, 20, 40]
SIXTEEN = list(range(16))
LAST_FIVE = [11, 12, 13, 14, 15]
NO_KEY = (None, True, 1, "10", b"10", (), (1,), (1, 0, 0), ((1, 0),), ((1, 0), 0), (1, (0,)), frozenset((1, 0)))


def four(liars=(3,)):
    return Meeting(FOUR, few=1, liars=liars)


def state(meeting):
    return (meeting.numbers_now(), meeting.honest(), meeting.apart(), meeting.rounds())


class Made(unittest.TestCase):
    def test_honest_houses_and_their_numbers(self):
        meeting = Meeting([8, 0, 4, 2], few=1, liars=[1])
        self.assertEqual(meeting.honest(), [0, 2, 3])
        self.assertEqual(meeting.numbers_now(), [8, 4, 2])
        self.assertEqual(meeting.apart(), 6)
        self.assertEqual(meeting.rounds(), 0)
        self.assertEqual([meeting.number(house) for house in (0, 2, 3)], [8, 4, 2])

    def test_liars_may_be_left_out(self):
        meeting = Meeting([5, -5, 1], few=1)
        self.assertEqual(meeting.honest(), [0, 1, 2])
        self.assertEqual(meeting.numbers_now(), [5, -5, 1])
        self.assertEqual(meeting.apart(), 10)

    def test_liars_are_a_list_or_a_tuple(self):
        for liars in ([0, 2], (0, 2)):
            self.assertEqual(Meeting([1, 2, 3, 4, 5], few=2, liars=liars).honest(), [1, 3, 4])

    def test_fewer_liars_than_few(self):
        for liars in ((), (4,), (0, 4)):
            meeting = Meeting([1, 2, 3, 4, 5], few=2, liars=liars)
            self.assertEqual(meeting.honest(), [house for house in range(5) if house not in liars])

    def test_one_house(self):
        meeting = Meeting([-7], few=0)
        self.assertEqual(state(meeting), ([-7], [0], 0, 0))
        meeting.meet({})
        self.assertEqual(state(meeting), ([-7], [0], 0, 1))

    def test_the_bounds(self):
        meeting = Meeting([1000000, -1000000, 0], few=0)
        self.assertEqual(meeting.apart(), 2000000)
        meeting.meet({})
        self.assertEqual(meeting.numbers_now(), [0, 0, 0])


class Rounds(unittest.TestCase):
    def test_liars_that_lie_to_nobody(self):
        meeting = four()
        self.assertIsNone(meeting.meet({}))
        self.assertEqual(state(meeting), ([15, 15, 15], [0, 1, 2], 0, 1))

    def test_liars_that_lie_to_all(self):
        meeting = four()
        meeting.meet({(3, 0): -100, (3, 1): 12, (3, 2): 1000})
        self.assertEqual(meeting.numbers_now(), [5, 11, 15])
        self.assertEqual(meeting.apart(), 10)

    def test_liars_that_lie_to_some(self):
        meeting = four()
        meeting.meet({(3, 0): -100})
        self.assertEqual(meeting.numbers_now(), [5, 15, 15])

    def test_several_rounds(self):
        meeting = four()
        meeting.meet({(3, 0): -100, (3, 1): 12, (3, 2): 1000})
        meeting.meet({(3, 0): 0, (3, 2): 14})
        # 5, 11, 15 and 0, 40 or 14 are heard.
        self.assertEqual(meeting.numbers_now(), [8, 13, 12])
        meeting.meet({(3, 0): -1000000, (3, 1): -1000000, (3, 2): 1000000})
        self.assertEqual(meeting.numbers_now(), [10, 10, 12])
        self.assertEqual(meeting.rounds(), 3)

    def test_behind_a_lie_a_liar_tells_what_it_had_at_first(self):
        meeting = four()
        meeting.meet({(3, 0): -100, (3, 1): 12, (3, 2): 1000})
        meeting.meet({})
        self.assertEqual(meeting.numbers_now(), [13, 13, 13])

    def test_a_liar_in_the_middle(self):
        meeting = Meeting([8, 0, 4, 2], few=1, liars=[1])
        meeting.meet({(1, 0): 100, (1, 1): 5, (1, 3): -100})
        self.assertEqual(meeting.numbers_now(), [6, 3, 3])
        self.assertEqual([meeting.number(house) for house in (0, 2, 3)], [6, 3, 3])
        self.assertEqual(meeting.apart(), 3)
        meeting.meet({})
        self.assertEqual(meeting.numbers_now(), [3, 3, 3])
        self.assertEqual(meeting.rounds(), 2)

    def test_lies_to_liars_change_nothing(self):
        meeting = Meeting([1, 5, 9, 2, 7, 4, 8], few=2, liars=(0, 6))
        meeting.meet({(0, 0): 100, (0, 6): -100, (6, 0): 99, (6, 6): -99})
        # 1, 2, 4, 5, 7, 8, 9 are heard by all.
        self.assertEqual(meeting.numbers_now(), [5, 5, 5, 5, 5])

    def test_few_0(self):
        meeting = Meeting([0, 10, 4], few=0)
        meeting.meet({})
        self.assertEqual(meeting.numbers_now(), [5, 5, 5])

    def test_halves_are_rounded_down(self):
        for worths, told in (([0, 1], 0), ([-1, 0], -1), ([-3, 0], -2), ([-5, -2], -4), ([4, 7], 5)):
            meeting = Meeting(worths, few=0)
            meeting.meet({})
            self.assertEqual(meeting.numbers_now(), [told, told])

    def test_few_are_left_out_also_where_fewer_are_liars(self):
        meeting = Meeting([0, 10, 20, 90, 50], few=2)
        meeting.meet({})
        self.assertEqual(meeting.numbers_now(), [20] * 5)

    def test_sixteen_houses_and_few_5(self):
        meeting = Meeting(SIXTEEN, few=5, liars=LAST_FIVE)
        lies = {(liar, 0): -1000000 for liar in LAST_FIVE}
        lies.update({(liar, 1): 1000000 for liar in LAST_FIVE})
        meeting.meet(lies)
        self.assertEqual(meeting.numbers_now(), [2, 7] + [7] * 9)
        self.assertEqual(meeting.honest(), list(range(11)))

    def test_one_more_than_twice_few_houses(self):
        for few in range(6):
            meeting = Meeting([k * k for k in range(2 * few + 1)], few=few, liars=list(range(few)))
            meeting.meet({})
            self.assertEqual(meeting.numbers_now(), [few * few] * (few + 1))
        meeting = Meeting([0, 10, 20], few=1, liars=(2,))
        meeting.meet({(2, 0): -5, (2, 1): 15})
        self.assertEqual(meeting.numbers_now(), [0, 10])

    def test_a_round_halves_with_more_than_three_times_few(self):
        for told in itertools.product((-9, 0, 3, 8, 30), repeat=3):
            meeting = Meeting([0, 3, 11, 5], few=1, liars=(3,))
            meeting.meet({(3, house): number for house, number in enumerate(told)})
            self.assertLessEqual(meeting.apart(), 6)
            self.assertTrue(all(0 <= number <= 11 for number in meeting.numbers_now()))


class RoundsFor(unittest.TestCase):
    def test_to_1(self):
        for apart, told in ((0, 0), (1, 0), (2, 1), (3, 2), (4, 2), (5, 3), (8, 3), (9, 4), (1024, 10), (1025, 11)):
            self.assertEqual(rounds_for(apart), told)
            self.assertEqual(rounds_for(apart, 1), told)

    def test_to_another_one(self):
        for apart, near, told in ((10, 3, 2), (10, 4, 2), (10, 5, 1), (10, 9, 1), (10, 10, 0), (10, 11, 0), (7, 2, 2)):
            self.assertEqual(rounds_for(apart, near), told)
            self.assertEqual(rounds_for(apart, near=near), told)

    def test_the_bounds(self):
        self.assertEqual(rounds_for(2000000), 21)
        self.assertEqual(rounds_for(2000000, 999999), 2)
        self.assertEqual(rounds_for(2000000, 1000000), 1)
        self.assertEqual(rounds_for(2000000, 1999999), 1)
        self.assertEqual(rounds_for(2000000, 2000000), 0)
        self.assertEqual(rounds_for(0, 2000000), 0)

    def test_refusals(self):
        for apart in NO_WHOLE + (-1, 2000001, 10 ** 5000):
            with self.assertRaises(BadNumber):
                rounds_for(apart)
            with self.assertRaises(BadNumber):
                rounds_for(apart, 1)
        for near in NO_WHOLE + (-1, 0, 2000001, 10 ** 5000):
            for apart in (0, 10, 2000000, None):
                with self.assertRaises(BadNumber):
                    rounds_for(apart, near)


class Stuck(unittest.TestCase):
    def test_few_1(self):
        self.assertEqual(stuck(1), ([0, 10, 0], [2], {(2, 0): 0, (2, 1): 10}))

    def test_few_2(self):
        lies = {(4, 0): 0, (4, 1): 0, (4, 2): 3, (4, 3): 3, (5, 0): 0, (5, 1): 0, (5, 2): 3, (5, 3): 3}
        self.assertEqual(stuck(2, apart=3), ([0, 0, 3, 3, 0, 0], [4, 5], lies))

    def test_few_5(self):
        numbers, liars, lies = stuck(5, apart=1000000)
        self.assertEqual(numbers, [0] * 5 + [1000000] * 5 + [0] * 5)
        self.assertEqual(liars, [10, 11, 12, 13, 14])
        keys = [(liar, house) for liar in range(10, 15) for house in range(10)]
        self.assertEqual(sorted(lies), keys)
        self.assertEqual([lies[key] for key in keys], ([0] * 5 + [1000000] * 5) * 5)

    def test_the_kinds(self):
        told = stuck(1)
        self.assertEqual([type(thing) for thing in (told,) + told], [tuple, list, list, dict])

    def test_they_never_come_nearer(self):
        for few, apart in itertools.product(range(1, 6), (1, 10, 1000000)):
            numbers, liars, lies = stuck(few, apart=apart)
            meeting = Meeting(numbers, few=few, liars=liars)
            for rounds in range(1, 6):
                meeting.meet(lies)
                self.assertEqual(state(meeting), ([0] * few + [apart] * few, list(range(2 * few)), apart, rounds))

    def test_what_is_told_is_new(self):
        numbers, liars, lies = stuck(1)
        numbers.append(1)
        liars.clear()
        lies[(2, 0)] = 7
        self.assertEqual(stuck(1), ([0, 10, 0], [2], {(2, 0): 0, (2, 1): 10}))

    def test_refusals(self):
        for few in NO_FEW + (0,):
            for apart in (10, None):
                with self.assertRaises(BadNumber):
                    stuck(few, apart=apart)
        for apart in NO_WHOLE + (-1, 0, 1000001, 10 ** 5000):
            with self.assertRaises(BadNumber):
                stuck(1, apart=apart)

    def test_apart_is_handed_in_by_its_name_alone(self):
        with self.assertRaises(TypeError):
            stuck(1, 10)


class RefusedWhenMade(unittest.TestCase):
    def refused(self, error, worths, few, liars=()):
        with self.subTest(error=error.__name__), self.assertRaises(error):
            Meeting(worths, few=few, liars=liars)

    def test_bad_worths(self):
        for worths in NO_LIST + ([], (1, 2, 3), [0] * 41):
            self.refused(BadWorths, worths, 0)
        for thing in NO_NUMBER:
            self.refused(BadWorths, [thing], 0)
            self.refused(BadWorths, [1, 2, thing], 1)

    def test_bad_few(self):
        for few in NO_FEW:
            self.refused(BadNumber, SIXTEEN, few)

    def test_bad_houses(self):
        for many in (17, 18, 40):
            self.refused(BadHouses, [0] * many, 0)
            self.refused(BadHouses, [0] * many, 5)
        for few in range(1, 6):
            for many in range(1, 2 * few + 1):
                self.refused(BadHouses, [3] * many, few)

    def test_liars_that_are_none(self):
        for liars in NO_ROW:
            self.refused(BadHouses, SIXTEEN, 5, liars)
        for thing in NO_WHOLE + (-1, 16, 10 ** 5000):
            self.refused(BadHouses, SIXTEEN, 5, [thing])
            self.refused(BadHouses, SIXTEEN, 5, (thing,))
            self.refused(BadHouses, SIXTEEN, 5, [0, thing])
            self.refused(BadHouses, SIXTEEN, 5, [thing, 15])
        self.refused(BadHouses, [1, 2, 3], 1, [3])

    def test_liars_that_are_not_rising(self):
        for liars in ([1, 0], (3, 2), [0, 2, 1], [1, 1], (0, 4, 4), [0, 0, 1]):
            self.refused(BadHouses, SIXTEEN, 5, liars)

    def test_too_many_liars(self):
        for few in range(6):
            self.refused(BadHouses, SIXTEEN, few, list(range(few + 1)))
            self.refused(BadHouses, SIXTEEN, few, tuple(range(few + 1)))

    def test_the_refusal_that_is_named_first(self):
        for worths in (None, [], (1, 2), [True], [0] * 41, [0] * 16 + [1000001]):
            for few in (0, 5, -1, 6, None, True):
                for liars in ((), None, [1, 0], [99]):
                    self.refused(BadWorths, worths, few, liars)
        for few in (-1, 6, None, True):
            for worths in ([0] * 17, [0], [1, 2, 3]):
                for liars in ((), None, [1, 0], [99]):
                    self.refused(BadNumber, worths, few, liars)

    def test_few_and_liars_are_handed_in_by_their_names_alone(self):
        with self.assertRaises(TypeError):
            Meeting(FOUR, 1)
        with self.assertRaises(TypeError):
            Meeting(FOUR, 1, (3,))
        with self.assertRaises(TypeError):
            Meeting(FOUR)


class RefusedThen(unittest.TestCase):
    def setUp(self):
        self.meeting = Meeting([8, 0, 4, 2, 6], few=2, liars=[1, 3])
        self.meeting.meet({(1, 0): 5})
        self.before = state(self.meeting)

    def refused(self, lies):
        with self.assertRaises(BadLies):
            self.meeting.meet(lies)
        self.assertEqual(state(self.meeting), self.before)

    def test_no_dict(self):
        for lies in NO_DICT:
            self.refused(lies)

    def test_keys_that_are_no_pairs(self):
        for key in NO_KEY:
            self.refused({key: 5})
            self.refused({(1, 0): 5, key: 5})

    def test_keys_of_no_liar(self):
        for liar in (0, 2, 4, -1, 5, 10 ** 5000, True, False, None, "1", (1,), object(), len):
            self.refused({(liar, 0): 5})
            self.refused({(1, 2): 5, (liar, 0): 5})

    def test_keys_of_no_house(self):
        for house in (-1, 5, 10 ** 5000, True, False, None, "1", (1,), object(), len):
            self.refused({(1, house): 5})
            self.refused({(1, 2): 5, (3, house): 5})

    def test_no_numbers(self):
        for thing in NO_NUMBER:
            self.refused({(1, 0): thing})
            self.refused({(1, 0): 5, (3, 3): thing})

    def test_without_liars_there_are_no_lies(self):
        meeting = Meeting([8, 0, 4], few=1)
        with self.assertRaises(BadLies):
            meeting.meet({(0, 1): 5})
        self.assertEqual(state(meeting), ([8, 0, 4], [0, 1, 2], 8, 0))

    def test_behind_a_refusal_the_next_round_is_as_without_it(self):
        other = Meeting([8, 0, 4, 2, 6], few=2, liars=[1, 3])
        other.meet({(1, 0): 5})
        self.refused({(1, 0): 999, (3, 9): 1})
        for lies in ({(1, 0): 7}, {}):
            self.meeting.meet(lies)
            other.meet(lies)
            self.assertEqual(state(self.meeting), state(other))

    def test_the_bounds_of_lies(self):
        self.meeting.meet({(1, 0): 1000000, (3, 0): -1000000, (1, 4): 0, (3, 3): 0})
        self.assertEqual(self.meeting.rounds(), 2)

    def test_no_house(self):
        for house in NO_WHOLE + (1, 3, -1, 5, 10 ** 5000):
            with self.assertRaises(NoHouse) as taken:
                self.meeting.number(house)
            self.assertIs(taken.exception.house, house)
        self.assertEqual(state(self.meeting), self.before)


class NothingIsChanged(unittest.TestCase):
    def test_what_was_handed_in_is_as_it_was(self):
        worths, liars, lies = list(FOUR), [3], {(3, 0): -100, (3, 3): 1}
        meeting = Meeting(worths, few=1, liars=liars)
        meeting.meet(lies)
        meeting.meet(lies)
        self.assertEqual((worths, liars, lies), (FOUR, [3], {(3, 0): -100, (3, 3): 1}))

    def test_what_is_kept_is_a_copy(self):
        worths, liars, lies = list(FOUR), [3], {(3, 0): -100}
        meeting = Meeting(worths, few=1, liars=liars)
        worths[0] = 999
        worths.append(5)
        liars.clear()
        self.assertEqual(state(meeting), ([0, 10, 20], [0, 1, 2], 20, 0))
        meeting.meet(lies)
        lies[(3, 1)] = -100
        meeting.meet({})
        other = four()
        other.meet({(3, 0): -100})
        other.meet({})
        self.assertEqual(state(meeting), state(other))

    def test_what_is_told_is_new(self):
        meeting = four()
        meeting.numbers_now().append(7)
        meeting.numbers_now()[0] = 7
        meeting.honest().clear()
        self.assertEqual(state(meeting), ([0, 10, 20], [0, 1, 2], 20, 0))
        told = meeting.numbers_now()
        meeting.meet({})
        self.assertEqual(told, [0, 10, 20])

    def test_two_meetings_are_apart(self):
        worths = list(FOUR)
        meeting, other = Meeting(worths, few=1, liars=(3,)), Meeting(worths, few=1, liars=(3,))
        meeting.meet({})
        self.assertEqual(state(other), ([0, 10, 20], [0, 1, 2], 20, 0))


if __name__ == "__main__":
    unittest.main()

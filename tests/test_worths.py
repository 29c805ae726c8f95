import itertools
import unittest

from liarclocks.errors import BadNumber, BadWorths
from liarclocks.worths import is_between, mean, median, middle, spread, trimmed
from things import NO_FEW, NO_LIST, NO_NUMBER, NO_WHOLE

WITH_FEW = (trimmed, middle, mean)
OF_ALL = (median, spread)
FORTY = [(k * 7) % 40 for k in range(40)]
ENDS = [1000000, -1000000, 0]


def each_bad_list():
    yield from NO_LIST
    yield []
    yield [0] * 41
    yield list(range(100))
    for thing in NO_NUMBER:
        yield [thing]
        yield [1, 2, thing]
        yield [thing] + [3] * 39
        yield [3] * 20 + [thing] + [3] * 19


class Trimmed(unittest.TestCase):
    def test_ordinary(self):
        self.assertEqual(trimmed([5, 1, 9, 3, 7], few=0), [1, 3, 5, 7, 9])
        self.assertEqual(trimmed([5, 1, 9, 3, 7], few=1), [3, 5, 7])
        self.assertEqual(trimmed([5, 1, 9, 3, 7], few=2), [5])
        self.assertEqual(trimmed([4, -4, 4, -4, 4, 0], few=1), [-4, 0, 4, 4])
        self.assertEqual(trimmed([10, 9, 100], few=0), [9, 10, 100])

    def test_like_numbers_are_kept_each(self):
        self.assertEqual(trimmed([2, 2, 2, 2], few=1), [2, 2])
        self.assertEqual(trimmed([2, 1, 2, 1], few=0), [1, 1, 2, 2])

    def test_one_number(self):
        self.assertEqual(trimmed([7], few=0), [7])
        self.assertEqual(trimmed([-1000000], few=0), [-1000000])

    def test_forty_numbers(self):
        self.assertEqual(trimmed(FORTY, few=0), list(range(40)))
        self.assertEqual(trimmed(FORTY, few=5), list(range(5, 35)))

    def test_just_one_is_left(self):
        for few in range(6):
            self.assertEqual(trimmed(list(range(2 * few + 1)), few=few), [few])

    def test_two_are_left(self):
        for few in range(6):
            self.assertEqual(trimmed(list(range(2 * few + 2)), few=few), [few, few + 1])

    def test_the_bounds(self):
        self.assertEqual(trimmed(ENDS, few=0), [-1000000, 0, 1000000])
        self.assertEqual(trimmed(ENDS, few=1), [0])

    def test_the_list_is_a_new_one(self):
        worths = [1, 2, 3]
        told = trimmed(worths, few=0)
        told.append(4)
        self.assertEqual(worths, [1, 2, 3])
        self.assertEqual(trimmed(worths, few=0), [1, 2, 3])

    def test_trimmed_lie_between_honest_ones(self):
        for lies in itertools.product((-9, 0, 2, 9), repeat=2):
            for worth in trimmed([1, 3, 2] + list(lies), few=2):
                self.assertTrue(is_between(worth, [1, 3, 2]))


class Middle(unittest.TestCase):
    def test_ordinary(self):
        self.assertEqual(middle([1, 2, 9], few=0), 5)
        self.assertEqual(middle([100, 4, 10, 5, -100], few=1), 7)
        self.assertEqual(middle([100, 4, 10, 5, -100], few=2), 5)

    def test_halves_are_rounded_down(self):
        self.assertEqual(middle([0, 1], few=0), 0)
        self.assertEqual(middle([4, 7], few=0), 5)

    def test_halves_below_0_are_rounded_down(self):
        self.assertEqual(middle([-1, 0], few=0), -1)
        self.assertEqual(middle([-4, 1], few=0), -2)
        self.assertEqual(middle([-5, -2], few=0), -4)
        self.assertEqual(middle([-9, -5, -2, 9], few=1), -4)

    def test_one_and_forty(self):
        self.assertEqual(middle([-3], few=0), -3)
        self.assertEqual(middle(FORTY, few=5), 19)
        self.assertEqual(middle(FORTY, few=0), 19)

    def test_the_bounds(self):
        self.assertEqual(middle(ENDS, few=0), 0)
        self.assertEqual(middle([1000000, 1000000], few=0), 1000000)
        self.assertEqual(middle([-1000000, -999999], few=0), -1000000)

    def test_just_one_is_left(self):
        for few in range(6):
            self.assertEqual(middle([k * k for k in range(2 * few + 1)], few=few), few * few)


class Mean(unittest.TestCase):
    def test_ordinary(self):
        self.assertEqual(mean([1, 2, 9], few=0), 4)
        self.assertEqual(mean([100, 4, 10, 7, -100], few=1), 7)
        self.assertEqual(mean([100, 4, 10, 5, -100], few=2), 5)

    def test_rounded_down(self):
        self.assertEqual(mean([1, 2], few=0), 1)
        self.assertEqual(mean([1, 1, 3], few=0), 1)
        self.assertEqual(mean([2, 3, 3], few=0), 2)

    def test_rounded_down_below_0(self):
        self.assertEqual(mean([-1, 0], few=0), -1)
        self.assertEqual(mean([-1, 0, 0, 0], few=0), -1)
        self.assertEqual(mean([-2, -2, -3], few=0), -3)
        self.assertEqual(mean([-50, -2, -2, -3, 50], few=1), -3)

    def test_one_and_forty(self):
        self.assertEqual(mean([-3], few=0), -3)
        self.assertEqual(mean(FORTY, few=5), 19)
        self.assertEqual(mean([0] * 39 + [-1], few=0), -1)

    def test_the_bounds(self):
        self.assertEqual(mean([1000000] * 40, few=5), 1000000)
        self.assertEqual(mean([-1000000] * 40, few=0), -1000000)

    def test_just_one_is_left(self):
        for few in range(6):
            self.assertEqual(mean([k * k for k in range(2 * few + 1)], few=few), few * few)


class Median(unittest.TestCase):
    def test_ordinary(self):
        self.assertEqual(median([9, 1, 5]), 5)
        self.assertEqual(median([100, 9, 10, 8, -7]), 9)

    def test_of_two_the_lesser(self):
        self.assertEqual(median([4, 3]), 3)
        self.assertEqual(median([4, 1, 3, 2]), 2)
        self.assertEqual(median([-4, -1, -3, -2]), -3)

    def test_one_and_forty(self):
        self.assertEqual(median([8]), 8)
        self.assertEqual(median(FORTY), 19)
        self.assertEqual(median(FORTY[:39]), 19)

    def test_the_bounds(self):
        self.assertEqual(median([1000000, -1000000]), -1000000)
        self.assertEqual(median([1000000, 1000000, -1000000]), 1000000)


class Spread(unittest.TestCase):
    def test_ordinary(self):
        self.assertEqual(spread([5, 2, 9, 4]), 7)
        self.assertEqual(spread([-5, -2, -9]), 7)
        self.assertEqual(spread([-5, 5, 0]), 10)

    def test_none_apart(self):
        self.assertEqual(spread([4, 4, 4]), 0)
        self.assertEqual(spread([-4]), 0)

    def test_forty_and_the_bounds(self):
        self.assertEqual(spread(FORTY), 39)
        self.assertEqual(spread(ENDS), 2000000)


class Between(unittest.TestCase):
    def test_ordinary(self):
        self.assertIs(is_between(3, [5, 1]), True)
        self.assertIs(is_between(0, [5, 1]), False)
        self.assertIs(is_between(6, [5, 1, 2]), False)
        self.assertIs(is_between(-2, [-1, -3]), True)

    def test_the_ends_are_between(self):
        self.assertIs(is_between(1, [5, 1, 3]), True)
        self.assertIs(is_between(5, [5, 1, 3]), True)
        self.assertIs(is_between(4, [4]), True)
        self.assertIs(is_between(5, [4]), False)

    def test_forty_and_the_bounds(self):
        self.assertIs(is_between(39, FORTY), True)
        self.assertIs(is_between(40, FORTY), False)
        self.assertIs(is_between(1000000, ENDS), True)
        self.assertIs(is_between(-1000000, ENDS), True)

    def test_a_number_beyond_the_bounds_is_not_between(self):
        self.assertIs(is_between(1000001, ENDS), False)
        self.assertIs(is_between(-1000001, ENDS), False)

    def test_what_is_no_whole_number_is_not_between(self):
        for thing in NO_WHOLE:
            self.assertIs(is_between(thing, [-5, 5]), False)


class Refusals(unittest.TestCase):
    def test_bad_lists(self):
        for worths in each_bad_list():
            for deed in WITH_FEW:
                with self.subTest(deed=deed.__name__), self.assertRaises(BadWorths):
                    deed(worths, few=0)
            for deed in OF_ALL:
                with self.subTest(deed=deed.__name__), self.assertRaises(BadWorths):
                    deed(worths)
            with self.assertRaises(BadWorths):
                is_between(1, worths)
            with self.assertRaises(BadWorths):
                is_between("no number", worths)

    def test_bad_few(self):
        for few in NO_FEW:
            for deed in WITH_FEW:
                with self.subTest(deed=deed.__name__), self.assertRaises(BadNumber):
                    deed(list(range(20)), few=few)

    def test_none_would_be_left(self):
        for few in range(1, 6):
            for many in range(1, 2 * few + 1):
                for deed in WITH_FEW:
                    with self.subTest(few=few, many=many), self.assertRaises(BadWorths):
                        deed([4] * many, few=few)

    def test_a_bad_few_goes_ahead_of_a_bad_list(self):
        for few in NO_FEW:
            for worths in ([], None, (1, 2, 3), [True], [0] * 41, [1000001]):
                for deed in WITH_FEW:
                    with self.assertRaises(BadNumber):
                        deed(worths, few=few)

    def test_few_is_handed_in_by_its_name_alone(self):
        for deed in WITH_FEW:
            with self.assertRaises(TypeError):
                deed([1, 2, 3], 0)
            with self.assertRaises(TypeError):
                deed([1, 2, 3])


class NothingIsChanged(unittest.TestCase):
    def test_what_was_handed_in_is_as_it_was(self):
        worths = [5, -1, 9, 9, 0, 3]
        for deed in WITH_FEW:
            deed(worths, few=1)
            deed(worths, few=0)
        for deed in OF_ALL:
            deed(worths)
        is_between(3, worths)
        self.assertEqual(worths, [5, -1, 9, 9, 0, 3])

    def test_what_was_refused_is_as_it_was(self):
        worths = [5, -1, "a", 9]
        for deed in WITH_FEW:
            with self.assertRaises(BadWorths):
                deed(worths, few=1)
        self.assertEqual(worths, [5, -1, "a", 9])


if __name__ == "__main__":
    unittest.main()

import itertools
import unittest

from liarclocks.errors import BadNumber, BadWorths
from liarclocks.weights import total_weight, weighed_left, weighed_median, weighed_middle
from things import NO_LIST, NO_NUMBER, NO_WHOLE

OF_ALL = (total_weight, weighed_median)
WITH_LOST = (weighed_left, weighed_middle)
NO_WEIGHT = NO_WHOLE + (0, -1, 1001, 10 ** 5000)
NO_LOST = NO_WHOLE + (-1, 40001, 10 ** 5000)
HEAVIEST = [(k, 1000) for k in range(40)]


def each_bad_list():
    yield from NO_LIST
    yield []
    yield [(1, 1)] * 41
    for row in (1, None, "ab", (), (1,), (1, 2, 3), [1, 2], {1: 2, 2: 3}, ((1, 2), 3), b"ab"):
        yield [row]
        yield [(5, 5), row]
    for number in NO_NUMBER:
        yield [(number, 5)]
        yield [(5, 5)] * 39 + [(number, 5)]
    for weight in NO_WEIGHT:
        yield [(5, weight)]
        yield [(5, 5), (5, weight), (5, 5)]


def one_by_one(rows):
    """Each number as many times as it weighs, rising."""
    return sorted(number for number, weight in rows for each in range(weight))


def small_lists():
    some = [(number, weight) for number in (-1, 0, 4) for weight in (1, 2, 3)]
    for many in (1, 2, 3):
        yield from (list(rows) for rows in itertools.product(some, repeat=many))


class TotalWeight(unittest.TestCase):
    def test_ordinary(self):
        self.assertEqual(total_weight([(5, 3), (-2, 10), (5, 3)]), 16)

    def test_the_edges(self):
        self.assertEqual(total_weight([(1000000, 1)]), 1)
        self.assertEqual(total_weight([(-1000000, 1000)]), 1000)
        self.assertEqual(total_weight(HEAVIEST), 40000)


class Left(unittest.TestCase):
    def test_nothing_is_lost(self):
        self.assertEqual(weighed_left([(5, 3), (-2, 10), (1, 1)], lost=0), [(-2, 10), (1, 1), (5, 3)])

    def test_whole_pairs_are_lost(self):
        self.assertEqual(weighed_left([(9, 2), (5, 3), (1, 2)], lost=2), [(5, 3)])
        self.assertEqual(weighed_left([(9, 1), (8, 1), (5, 3), (2, 1), (1, 1)], lost=2), [(5, 3)])

    def test_a_part_is_lost_at_the_first_end(self):
        self.assertEqual(weighed_left([(9, 2), (5, 3), (1, 4)], lost=2), [(1, 2), (5, 3)])

    def test_a_part_is_lost_at_the_last_end(self):
        self.assertEqual(weighed_left([(9, 5), (5, 3), (1, 2)], lost=2), [(5, 3), (9, 3)])

    def test_parts_are_lost_at_both_ends(self):
        self.assertEqual(weighed_left([(9, 5), (5, 3), (1, 4)], lost=3), [(1, 1), (5, 3), (9, 2)])
        self.assertEqual(weighed_left([(9, 1), (7, 4), (5, 3), (2, 2), (1, 1)], lost=2), [(2, 1), (5, 3), (7, 3)])

    def test_a_part_of_one_pair_is_lost_at_both_ends(self):
        self.assertEqual(weighed_left([(5, 10)], lost=3), [(5, 4)])
        self.assertEqual(weighed_left([(1, 1), (5, 10), (9, 2)], lost=4), [(5, 5)])

    def test_all_but_a_part_of_one_pair_is_lost(self):
        self.assertEqual(weighed_left([(5, 11)], lost=5), [(5, 1)])
        self.assertEqual(weighed_left([(1, 2), (5, 3), (9, 2)], lost=3), [(5, 1)])
        self.assertEqual(weighed_left([(1, 2), (5, 3)], lost=2), [(5, 1)])
        self.assertEqual(weighed_left([(1, 3), (5, 2)], lost=2), [(1, 1)])

    def test_of_like_numbers_the_lesser_weight_is_first(self):
        self.assertEqual(weighed_left([(5, 9), (5, 2), (5, 4)], lost=0), [(5, 2), (5, 4), (5, 9)])
        self.assertEqual(weighed_left([(5, 9), (5, 2)], lost=3), [(5, 5)])
        self.assertEqual(weighed_left([(5, 9), (5, 2), (1, 1)], lost=2), [(5, 1), (5, 7)])

    def test_rests_stay_where_their_pairs_were(self):
        self.assertEqual(weighed_left([(5, 5), (1, 5), (5, 4)], lost=3), [(1, 2), (5, 4), (5, 2)])

    def test_like_pairs_are_kept_each(self):
        self.assertEqual(weighed_left([(5, 2), (5, 2), (5, 2)], lost=1), [(5, 1), (5, 2), (5, 1)])

    def test_the_edges(self):
        self.assertEqual(weighed_left([(1000000, 1000), (-1000000, 1)], lost=500), [(1000000, 1)])
        self.assertEqual(weighed_left(HEAVIEST, lost=19999), [(19, 1), (20, 1)])
        self.assertEqual(weighed_left(HEAVIEST[::-1], lost=0), HEAVIEST)

    def test_as_one_by_one(self):
        for rows in small_lists():
            units = one_by_one(rows)
            for lost in range((len(units) - 1) // 2 + 1):
                left = weighed_left(rows, lost=lost)
                self.assertEqual(one_by_one(left), units[lost:len(units) - lost])
                self.assertTrue(all(weight > 0 for number, weight in left))

    def test_the_list_is_a_new_one(self):
        rows = [(1, 2), (3, 4)]
        weighed_left(rows, lost=0).append((5, 6))
        self.assertEqual(rows, [(1, 2), (3, 4)])


class Middle(unittest.TestCase):
    def test_ordinary(self):
        self.assertEqual(weighed_middle([(9, 5), (5, 3), (1, 4)], lost=0), 5)
        self.assertEqual(weighed_middle([(9, 5), (5, 3), (1, 4)], lost=4), 7)
        self.assertEqual(weighed_middle([(9, 2), (5, 3), (1, 2)], lost=2), 5)

    def test_halves_are_rounded_down(self):
        self.assertEqual(weighed_middle([(0, 1), (1, 1)], lost=0), 0)
        self.assertEqual(weighed_middle([(-1, 1), (0, 1)], lost=0), -1)
        self.assertEqual(weighed_middle([(-5, 7), (-2, 7), (30, 2)], lost=2), -4)

    def test_one_pair_and_the_edges(self):
        self.assertEqual(weighed_middle([(-7, 3)], lost=1), -7)
        self.assertEqual(weighed_middle(HEAVIEST, lost=19999), 19)
        self.assertEqual(weighed_middle([(1000000, 1), (-1000000, 1)], lost=0), 0)


class Median(unittest.TestCase):
    def test_ordinary(self):
        self.assertEqual(weighed_median([(9, 1), (5, 1), (1, 1)]), 5)
        self.assertEqual(weighed_median([(9, 5), (5, 1), (1, 1)]), 9)
        self.assertEqual(weighed_median([(9, 1), (5, 1), (1, 5)]), 1)

    def test_just_half_is_reached(self):
        self.assertEqual(weighed_median([(1, 5), (9, 5)]), 1)
        self.assertEqual(weighed_median([(1, 2), (2, 3), (9, 5)]), 2)
        self.assertEqual(weighed_median([(1, 4), (9, 6)]), 9)

    def test_an_odd_weight_of_all(self):
        self.assertEqual(weighed_median([(1, 5), (9, 6)]), 9)
        self.assertEqual(weighed_median([(1, 6), (9, 5)]), 1)
        self.assertEqual(weighed_median([(1, 1), (2, 1), (3, 1)]), 2)

    def test_like_numbers(self):
        self.assertEqual(weighed_median([(3, 1), (1, 4), (3, 9), (1, 4)]), 3)
        self.assertEqual(weighed_median([(1, 1), (1, 9), (3, 4), (3, 4)]), 1)

    def test_one_pair_and_the_edges(self):
        self.assertEqual(weighed_median([(-7, 1)]), -7)
        self.assertEqual(weighed_median(HEAVIEST), 19)
        self.assertEqual(weighed_median([(1000000, 1000), (-1000000, 999)]), 1000000)

    def test_as_one_by_one(self):
        for rows in small_lists():
            units = one_by_one(rows)
            self.assertEqual(weighed_median(rows), units[(len(units) - 1) // 2])


class Refusals(unittest.TestCase):
    def test_bad_lists(self):
        for rows in each_bad_list():
            for deed in OF_ALL:
                with self.subTest(deed=deed.__name__), self.assertRaises(BadWorths):
                    deed(rows)
            for deed in WITH_LOST:
                with self.subTest(deed=deed.__name__), self.assertRaises(BadWorths):
                    deed(rows, lost=0)

    def test_bad_lost(self):
        for lost in NO_LOST:
            for deed in WITH_LOST:
                with self.subTest(deed=deed.__name__), self.assertRaises(BadNumber):
                    deed([(1, 1000), (2, 1000)], lost=lost)

    def test_nothing_would_be_left(self):
        for rows, lost in (([(5, 10)], 5), ([(5, 10)], 6), ([(5, 9)], 5), ([(1, 2), (5, 2)], 2), ([(1, 1)], 1),
                           (HEAVIEST, 20000), (HEAVIEST, 40000), ([(1, 1)], 40000)):
            for deed in WITH_LOST:
                with self.subTest(rows=rows, lost=lost), self.assertRaises(BadWorths):
                    deed(rows, lost=lost)

    def test_a_bad_lost_goes_ahead_of_a_bad_list(self):
        for lost in NO_LOST:
            for rows in (None, [], [(1, 0)], [[1, 1]], ((1, 1),), [(True, 1)], [(1, 1)] * 41):
                for deed in WITH_LOST:
                    with self.assertRaises(BadNumber):
                        deed(rows, lost=lost)

    def test_lost_is_handed_in_by_its_name_alone(self):
        for deed in WITH_LOST:
            with self.assertRaises(TypeError):
                deed([(1, 5)], 0)
            with self.assertRaises(TypeError):
                deed([(1, 5)])


class NothingIsChanged(unittest.TestCase):
    def test_what_was_handed_in_is_as_it_was(self):
        rows = [(9, 5), (5, 3), (1, 4), (5, 1)]
        for deed in OF_ALL:
            deed(rows)
        for deed in WITH_LOST:
            deed(rows, lost=0)
            deed(rows, lost=4)
            with self.assertRaises(BadWorths):
                deed(rows, lost=7)
        self.assertEqual(rows, [(9, 5), (5, 3), (1, 4), (5, 1)])


if __name__ == "__main__":
    unittest.main()

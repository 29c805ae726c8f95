import itertools
import unittest

from liarclocks.errors import BadNumber, BadWorths
from liarclocks.spans import best_points, depth, fewest_lies, fused, shown_false
from things import NO_FEW, NO_LIST, NO_NUMBER

THREE = [(1, 5), (3, 8), (4, 9)]
# Points of two spans lie at both sides of a gap.
GAP = [(0, 2), (1, 3), (10, 12), (11, 13), (5, 6)]
FORTY = [(k, k + 39) for k in range(40)]
SMALL = [(low, high) for low in range(-2, 3) for high in range(low, 3)]
NO_SPAN = (None, 1, "ab", b"ab", (), (1,), (1, 2, 3), [1, 2], {1: 2, 2: 3}, ((1, 2), 3), (2, 1), (0, -1),
           (1000000, -1000000))


def each_bad_list():
    yield from NO_LIST
    yield []
    yield [(0, 0)] * 41
    for span in NO_SPAN:
        yield [span]
        yield [(0, 0), span]
        yield [(0, 0)] * 39 + [span]
    for number in NO_NUMBER:
        yield [(number, 1000000)]
        yield [(-1000000, number)]
        yield [(0, 0), (number, number)]


def points_of(spans, many):
    """By walking all points of SMALL: those in so many spans at least."""
    return [point for point in range(-2, 3) if sum(low <= point <= high for low, high in spans) >= many]


class Fused(unittest.TestCase):
    def test_ordinary(self):
        self.assertEqual(fused(THREE, few=0), (4, 5))
        self.assertEqual(fused(THREE, few=1), (3, 8))
        self.assertEqual(fused(THREE, few=2), (1, 9))
        self.assertEqual(fused([(-9, -5), (-7, -1), (40, 50)], few=1), (-7, -5))

    def test_over_a_gap(self):
        self.assertEqual(fused(GAP, few=3), (1, 12))
        self.assertEqual(fused(GAP, few=4), (0, 13))

    def test_nothing_fused(self):
        self.assertIsNone(fused(GAP, few=2))
        self.assertIsNone(fused([(0, 5), (6, 9)], few=0))
        self.assertIsNone(fused([(0, 0), (1, 1), (2, 2)], few=1))

    def test_spans_that_touch_in_one_point(self):
        self.assertEqual(fused([(0, 5), (5, 9)], few=0), (5, 5))
        self.assertEqual(fused([(5, 9), (0, 5), (5, 5)], few=0), (5, 5))

    def test_spans_of_one_point(self):
        self.assertEqual(fused([(3, 3)], few=0), (3, 3))
        self.assertEqual(fused([(3, 3), (7, 7)], few=1), (3, 7))
        self.assertEqual(fused([(3, 3), (7, 7), (3, 3)], few=1), (3, 3))

    def test_one_more_than_few(self):
        for few in range(6):
            spans = [(10 * k, 10 * k + 3) for k in range(few + 1)]
            self.assertEqual(fused(spans, few=few), (0, 10 * few + 3))

    def test_forty(self):
        self.assertEqual(fused(FORTY, few=0), (39, 39))
        self.assertEqual(fused(FORTY, few=5), (34, 44))

    def test_the_bounds(self):
        self.assertEqual(fused([(-1000000, 1000000)] * 2, few=0), (-1000000, 1000000))
        self.assertEqual(fused([(-1000000, -1000000), (1000000, 1000000)], few=1), (-1000000, 1000000))

    def test_the_kind(self):
        self.assertIsInstance(fused(THREE, few=0), tuple)

    def test_against_all_points(self):
        for spans in itertools.product(SMALL, repeat=3):
            for few in range(3):
                points = points_of(spans, 3 - few)
                told = (points[0], points[-1]) if points else None
                self.assertEqual(fused(list(spans), few=few), told)


class ShownFalse(unittest.TestCase):
    def test_ordinary(self):
        self.assertEqual(shown_false([(1, 5), (3, 8), (20, 30)], few=1), [2])
        self.assertEqual(shown_false([(20, 30), (1, 5), (3, 8), (-9, -2), (4, 4)], few=2), [0, 3])
        self.assertEqual(shown_false(THREE, few=1), [])

    def test_just_at_the_edge(self):
        self.assertEqual(shown_false([(0, 5), (2, 5), (5, 9)], few=1), [])
        self.assertEqual(shown_false([(0, 5), (2, 5), (6, 9)], few=1), [2])
        self.assertEqual(shown_false([(0, 2), (2, 5), (2, 9), (-3, 1)], few=1), [3])

    def test_a_span_in_the_gap_is_not_shown_false(self):
        self.assertEqual(shown_false(GAP, few=3), [])

    def test_nothing_fused(self):
        self.assertEqual(shown_false(GAP, few=2), [])
        self.assertEqual(shown_false([(0, 5), (6, 9)], few=0), [])

    def test_one_more_than_few(self):
        for few in range(6):
            self.assertEqual(shown_false([(9 * k, 9 * k) for k in range(few + 1)], few=few), [])

    def test_forty(self):
        spans = [(5, 9)] * 40
        for sensor in (0, 7, 20, 38, 39):
            spans[sensor] = (sensor + 10, sensor + 10)
        self.assertEqual(shown_false(spans, few=5), [0, 7, 20, 38, 39])
        self.assertEqual(shown_false(spans, few=4), [])

    def test_the_list_is_a_new_one(self):
        spans = [(1, 5), (3, 8), (20, 30)]
        shown_false(spans, few=1).append(9)
        self.assertEqual(shown_false(spans, few=1), [2])
        shown_false(GAP, few=2).append(9)
        self.assertEqual(shown_false(GAP, few=2), [])

    def test_against_all_points(self):
        for spans in itertools.product(SMALL, repeat=3):
            for few in range(3):
                points = points_of(spans, 3 - few)
                place = range(points[0], points[-1] + 1) if points else range(0)
                off = [at for at, (low, high) in enumerate(spans) if not any(low <= point <= high for point in place)]
                self.assertEqual(shown_false(list(spans), few=few), off if points else [])


class Depth(unittest.TestCase):
    def test_ordinary(self):
        told = [(0, 0), (1, 1), (2, 1), (3, 2), (4, 3), (5, 3), (6, 2), (8, 2), (9, 1), (10, 0)]
        for point, many in told:
            self.assertEqual(depth(THREE, point), many)

    def test_one_point_and_touching(self):
        self.assertEqual([depth([(3, 3)], point) for point in (2, 3, 4)], [0, 1, 0])
        self.assertEqual([depth([(0, 5), (5, 9)], point) for point in (4, 5, 6)], [1, 2, 1])

    def test_forty(self):
        self.assertEqual([depth(FORTY, point) for point in (-1, 0, 38, 39, 40, 78, 79)], [0, 1, 39, 40, 39, 1, 0])

    def test_the_bounds(self):
        self.assertEqual(depth([(-1000000, 1000000)], -1000000), 1)
        self.assertEqual(depth([(-1000000, 1000000)], 1000000), 1)
        self.assertEqual(depth([(0, 0)], 1000000), 0)


class BestPoints(unittest.TestCase):
    def test_ordinary(self):
        self.assertEqual(best_points(THREE), (3, 4))
        self.assertEqual(best_points(GAP), (2, 1))
        self.assertEqual(best_points([(-9, -5), (-7, -1), (40, 50)]), (2, -7))

    def test_the_least_of_several(self):
        self.assertEqual(best_points([(5, 6), (0, 1)]), (1, 0))
        self.assertEqual(best_points([(11, 13), (10, 12), (1, 3), (0, 2)]), (2, 1))

    def test_one_point_and_touching(self):
        self.assertEqual(best_points([(3, 3)]), (1, 3))
        self.assertEqual(best_points([(0, 5), (5, 9)]), (2, 5))

    def test_forty_and_the_bounds(self):
        self.assertEqual(best_points(FORTY), (40, 39))
        self.assertEqual(best_points([(-1000000, 1000000)] * 40), (40, -1000000))
        self.assertEqual(best_points([(1000000, 1000000)]), (1, 1000000))

    def test_the_kind(self):
        self.assertIsInstance(best_points(THREE), tuple)

    def test_against_all_points(self):
        for spans in itertools.product(SMALL, repeat=3):
            most = max(many for many in range(1, 4) if points_of(spans, many))
            self.assertEqual(best_points(list(spans)), (most, points_of(spans, most)[0]))


class FewestLies(unittest.TestCase):
    def test_ordinary(self):
        self.assertEqual(fewest_lies(THREE), 0)
        self.assertEqual(fewest_lies(GAP), 3)
        self.assertEqual(fewest_lies([(-9, -5), (-7, -1), (40, 50)]), 1)

    def test_the_edges(self):
        self.assertEqual(fewest_lies([(3, 3)]), 0)
        self.assertEqual(fewest_lies([(0, 5), (5, 9)]), 0)
        self.assertEqual(fewest_lies([(0, 5), (6, 9)]), 1)
        self.assertEqual(fewest_lies(FORTY), 0)
        self.assertEqual(fewest_lies([(k, k) for k in range(40)]), 39)


class Refusals(unittest.TestCase):
    def test_bad_lists(self):
        for spans in each_bad_list():
            for deed in (best_points, fewest_lies):
                with self.subTest(deed=deed.__name__), self.assertRaises(BadWorths):
                    deed(spans)
            for deed in (fused, shown_false):
                with self.subTest(deed=deed.__name__), self.assertRaises(BadWorths):
                    deed(spans, few=0)
            with self.assertRaises(BadWorths):
                depth(spans, 0)

    def test_no_more_than_few(self):
        for deed in (fused, shown_false):
            for few in range(6):
                for many in range(few + 1):
                    with self.subTest(few=few, many=many), self.assertRaises(BadWorths):
                        deed([(0, 1)] * many, few=few)

    def test_bad_few(self):
        for deed in (fused, shown_false):
            for few in NO_FEW:
                with self.assertRaises(BadNumber):
                    deed(FORTY, few=few)

    def test_a_bad_few_goes_ahead_of_a_bad_list(self):
        for deed in (fused, shown_false):
            for few in NO_FEW:
                for spans in (None, [], [(2, 1)], ((1, 2),), [(0, 0)] * 41):
                    with self.assertRaises(BadNumber):
                        deed(spans, few=few)

    def test_no_point(self):
        for point in NO_NUMBER:
            with self.assertRaises(BadNumber):
                depth(THREE, point)

    def test_a_bad_list_goes_ahead_of_no_point(self):
        for spans in each_bad_list():
            with self.assertRaises(BadWorths):
                depth(spans, None)

    def test_few_is_handed_in_by_its_name_alone(self):
        for deed in (fused, shown_false):
            with self.assertRaises(TypeError):
                deed(THREE, 0)
            with self.assertRaises(TypeError):
                deed(THREE)


class NothingIsChanged(unittest.TestCase):
    def test_what_was_handed_in_is_as_it_was(self):
        spans = [(3, 8), (20, 30), (1, 5)]
        fused(spans, few=1)
        shown_false(spans, few=1)
        depth(spans, 4)
        best_points(spans)
        fewest_lies(spans)
        self.assertEqual(spans, [(3, 8), (20, 30), (1, 5)])


if __name__ == "__main__":
    unittest.main()

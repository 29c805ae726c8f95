import unittest

from liarclocks.errors import BadNumber, BadWorths
from liarclocks.planes import box, in_box, middle_point, width
from things import NO_FEW, NO_LIST, NO_NUMBER, NO_WHOLE

OF_ALL = (box, width)
FORTY = [((k * 7) % 40, -((k * 11) % 40)) for k in range(40)]
ENDS = [(1000000, -1000000), (-1000000, 1000000)]
NO_POINT = (None, 1, "ab", b"ab", (), (1,), (1, 2, 3), [1, 2], {1: 2, 2: 3}, ((1, 2), 3))


def each_bad_list():
    yield from NO_LIST
    yield []
    yield [(0, 0)] * 41
    for point in NO_POINT:
        yield [point]
        yield [(0, 0), point]
    for number in NO_NUMBER:
        yield [(number, 0)]
        yield [(0, number)]
        yield [(0, 0)] * 39 + [(0, number)]


class Box(unittest.TestCase):
    def test_ordinary(self):
        self.assertEqual(box([(1, 5), (4, -2), (3, 7)]), ((1, 4), (-2, 7)))
        self.assertEqual(box([(-4, -5), (-1, -9)]), ((-4, -1), (-9, -5)))

    def test_one_and_forty(self):
        self.assertEqual(box([(3, -8)]), ((3, 3), (-8, -8)))
        self.assertEqual(box(FORTY), ((0, 39), (-39, 0)))

    def test_the_bounds(self):
        self.assertEqual(box(ENDS), ((-1000000, 1000000), (-1000000, 1000000)))

    def test_the_kinds(self):
        told = box([(1, 5), (4, -2)])
        self.assertIsInstance(told, tuple)
        self.assertIsInstance(told[0], tuple)
        self.assertIsInstance(told[1], tuple)


class MiddlePoint(unittest.TestCase):
    def test_ordinary(self):
        self.assertEqual(middle_point([(1, 5), (5, -1), (3, 7)], few=0), (3, 3))
        self.assertEqual(middle_point([(1, 50), (5, -10), (90, 7)], few=1), (5, 7))
        self.assertEqual(middle_point([(0, 9), (2, 1), (6, 2), (99, 6)], few=1), (4, 4))

    def test_halves_are_rounded_down(self):
        self.assertEqual(middle_point([(0, -1), (1, 0)], few=0), (0, -1))
        self.assertEqual(middle_point([(-5, 4), (-2, 7)], few=0), (-4, 5))

    def test_one_and_forty(self):
        self.assertEqual(middle_point([(3, -8)], few=0), (3, -8))
        self.assertEqual(middle_point(FORTY, few=5), (19, -20))

    def test_just_one_is_left(self):
        for few in range(6):
            points = [(k, 100 - 2 * k) for k in range(2 * few + 1)]
            self.assertEqual(middle_point(points, few=few), (few, 100 - 2 * few))

    def test_the_bounds(self):
        self.assertEqual(middle_point(ENDS, few=0), (0, 0))

    def test_the_kind(self):
        self.assertIsInstance(middle_point([(1, 5)], few=0), tuple)


class InBox(unittest.TestCase):
    points = [(1, 5), (4, -2), (3, 7)]

    def test_within(self):
        self.assertIs(in_box((2, 0), self.points), True)
        self.assertIs(in_box((3, 5), self.points), True)

    def test_on_the_edge(self):
        for point in ((1, 0), (4, 0), (2, -2), (2, 7), (1, -2), (4, 7), (1, 7), (4, -2)):
            self.assertIs(in_box(point, self.points), True)

    def test_beyond_the_edge(self):
        for point in ((0, 0), (5, 0), (2, -3), (2, 8), (0, -3), (5, 8), (0, 7), (4, 8)):
            self.assertIs(in_box(point, self.points), False)

    def test_one_and_forty(self):
        self.assertIs(in_box((3, -8), [(3, -8)]), True)
        self.assertIs(in_box((-8, 3), [(3, -8)]), False)
        self.assertIs(in_box((39, -39), FORTY), True)
        self.assertIs(in_box((40, -39), FORTY), False)

    def test_the_bounds(self):
        self.assertIs(in_box((1000000, -1000000), ENDS), True)
        self.assertIs(in_box((1000001, 0), ENDS), False)
        self.assertIs(in_box((0, -1000001), ENDS), False)

    def test_what_is_no_point_is_not_in_the_box(self):
        for thing in NO_POINT:
            self.assertIs(in_box(thing, ENDS), False)
        for thing in NO_WHOLE:
            self.assertIs(in_box((thing, 0), ENDS), False)
            self.assertIs(in_box((0, thing), ENDS), False)


class Width(unittest.TestCase):
    def test_ordinary(self):
        self.assertEqual(width([(1, 5), (4, -2), (3, 7)]), 9)
        self.assertEqual(width([(5, 1), (-2, 4), (7, 3)]), 9)
        self.assertEqual(width([(-5, -1), (-2, -4)]), 3)

    def test_one_and_forty(self):
        self.assertEqual(width([(3, -8)]), 0)
        self.assertEqual(width(FORTY), 39)

    def test_the_bounds(self):
        self.assertEqual(width(ENDS), 2000000)


class Refusals(unittest.TestCase):
    def test_bad_lists(self):
        for points in each_bad_list():
            for deed in OF_ALL:
                with self.subTest(deed=deed.__name__), self.assertRaises(BadWorths):
                    deed(points)
            with self.assertRaises(BadWorths):
                middle_point(points, few=0)
            with self.assertRaises(BadWorths):
                in_box((0, 0), points)
            with self.assertRaises(BadWorths):
                in_box("no point", points)

    def test_bad_few(self):
        for few in NO_FEW:
            with self.assertRaises(BadNumber):
                middle_point(FORTY, few=few)

    def test_no_more_than_twice_few_points(self):
        for few in range(1, 6):
            for many in range(1, 2 * few + 1):
                with self.subTest(few=few, many=many), self.assertRaises(BadWorths):
                    middle_point([(1, 2)] * many, few=few)

    def test_a_bad_few_goes_ahead_of_a_bad_list(self):
        for few in NO_FEW:
            for points in (None, [], [[1, 2]], ((1, 2),), [(True, 1)], [(0, 0)] * 41):
                with self.assertRaises(BadNumber):
                    middle_point(points, few=few)

    def test_few_is_handed_in_by_its_name_alone(self):
        with self.assertRaises(TypeError):
            middle_point(FORTY, 0)
        with self.assertRaises(TypeError):
            middle_point(FORTY)


class NothingIsChanged(unittest.TestCase):
    def test_what_was_handed_in_is_as_it_was(self):
        points = [(9, 5), (5, 3), (1, 4)]
        for deed in OF_ALL:
            deed(points)
        middle_point(points, few=1)
        in_box((5, 4), points)
        self.assertEqual(points, [(9, 5), (5, 3), (1, 4)])


if __name__ == "__main__":
    unittest.main()

import itertools
import unittest

from liarclocks.errors import BadNumber, BadWorths, NotNow
from liarclocks.tracks import Track
from things import NO_BEAT, NO_FEW, NO_LIST, NO_NUMBER, NO_WHOLE

FIRST = [(0, 10), (5, 15), (8, 20)]
NO_SPAN = (None, 1, "ab", (), (1,), (1, 2, 3), [1, 2], ((1, 2), 3), (2, 1))


def seen():
    """A track that saw the truth from 5 to 15 at beat 10."""
    track = Track(few=1, speed=2)
    track.see(10, FIRST)
    return track


def alone(place, *, speed, beat=0):
    """A track of sensors that do not lie, which saw the truth at a place."""
    track = Track(few=0, speed=speed)
    track.see(beat, [place])
    return track


class See(unittest.TestCase):
    def test_at_first_it_is_what_is_fused(self):
        self.assertEqual(Track(few=1, speed=2).see(10, FIRST), (5, 15))
        self.assertEqual(Track(few=0, speed=0).see(0, FIRST), (8, 10))
        self.assertEqual(Track(few=2, speed=1000).see(100000, FIRST), (0, 20))

    def test_several_beats(self):
        track = seen()
        # From 5 to 15 it is wider by 2 for each of 2 beats.
        self.assertEqual(track.see(12, [(0, 4), (-5, 3), (50, 60)]), (1, 3))
        self.assertEqual(track.see(13, [(-9, 9), (-9, 9), (-9, 9)]), (-1, 5))
        self.assertEqual(track.see(15, [(4, 99), (6, 99), (2, 3)]), (6, 9))
        self.assertEqual(track.guess(15), (6, 9))

    def test_what_is_in_common_is_kept_and_not_what_was_fused(self):
        track = alone((0, 4), speed=1)
        self.assertEqual(track.see(1, [(5, 90)]), (5, 5))
        self.assertEqual(track.see(2, [(0, 90)]), (4, 6))

    def test_one_point_left_and_none(self):
        self.assertEqual(alone((0, 4), speed=1).see(1, [(5, 9)]), (5, 5))
        self.assertEqual(alone((0, 4), speed=1).see(1, [(-9, -1)]), (-1, -1))
        for spans in ([(6, 9)], [(-9, -2)]):
            with self.assertRaises(BadWorths):
                alone((0, 4), speed=1).see(1, spans)

    def test_speed_0(self):
        track = alone((0, 4), speed=0)
        self.assertEqual(track.see(100, [(2, 9)]), (2, 4))
        self.assertEqual(track.see(100000, [(4, 9)]), (4, 4))
        with self.assertRaises(BadWorths):
            track.see(100000, [(5, 9)])

    def test_speed_1000(self):
        track = alone((0, 4), speed=1000)
        self.assertEqual(track.see(3, [(-1000000, 1000000)]), (-3000, 3004))
        self.assertEqual(track.see(100000, [(-1000000, 1000000)]), (-1000000, 1000000))

    def test_the_same_beat_twice(self):
        track = seen()
        self.assertEqual(track.see(10, [(7, 30), (9, 30), (0, 8)]), (7, 15))
        self.assertEqual(track.see(10, [(0, 9), (0, 9), (0, 9)]), (7, 9))
        with self.assertRaises(BadWorths):
            track.see(10, [(0, 6), (0, 6), (0, 6)])

    def test_one_more_than_few_and_forty(self):
        for few in range(6):
            spans = [(10 * k, 10 * k + 3) for k in range(few + 1)]
            self.assertEqual(Track(few=few, speed=0).see(0, spans), (0, 10 * few + 3))
        self.assertEqual(Track(few=5, speed=0).see(0, [(k, k + 39) for k in range(40)]), (34, 44))

    def test_the_kind(self):
        track = Track(few=1, speed=2)
        self.assertIsInstance(track.see(10, FIRST), tuple)
        self.assertIsInstance(track.see(11, FIRST), tuple)
        self.assertIsInstance(track.guess(12), tuple)


class Guess(unittest.TestCase):
    def test_ordinary(self):
        track = seen()
        self.assertEqual([track.guess(beat) for beat in (10, 11, 15, 10)], [(5, 15), (3, 17), (-5, 25), (5, 15)])
        track.see(20, [(0, 4), (2, 4), (1, 9)])
        self.assertEqual([track.guess(beat) for beat in (20, 23)], [(1, 4), (-5, 10)])

    def test_the_edges(self):
        self.assertEqual(alone((0, 4), speed=0).guess(100000), (0, 4))
        self.assertEqual(alone((0, 4), speed=1000).guess(100000), (-100000000, 100000004))
        self.assertEqual(alone((3, 3), speed=7, beat=100000).guess(100000), (3, 3))

    def test_a_guess_is_not_seen(self):
        track = seen()
        track.guess(50)
        self.assertEqual(track.see(10, FIRST), (5, 15))
        self.assertEqual(track.guess(11), (3, 17))


class LiarsFound(unittest.TestCase):
    def test_none_at_first(self):
        self.assertEqual(Track(few=1, speed=2).liars_found(), [])
        self.assertEqual(seen().liars_found(), [])

    def test_shown_false(self):
        track = Track(few=2, speed=2)
        track.see(3, [(20, 30), (1, 5), (3, 8), (-9, -2), (4, 4)])
        self.assertEqual(track.liars_found(), [0, 3])

    def test_not_meeting_the_place(self):
        track = Track(few=1, speed=0)
        track.see(0, [(25, 50), (25, 50), (25, 50)])
        # From 8 to 30 is fused, so by that alone nobody would be caught.
        self.assertEqual(track.see(1, [(0, 10), (8, 30), (9, 40)]), (25, 30))
        self.assertEqual(track.liars_found(), [0])

    def test_meeting_the_place_in_one_point(self):
        track = Track(few=1, speed=0)
        track.see(0, [(25, 50), (25, 50), (25, 50)])
        self.assertEqual(track.see(1, [(0, 25), (8, 30), (9, 40)]), (25, 30))
        self.assertEqual(track.liars_found(), [])
        self.assertEqual(track.see(2, [(30, 60), (0, 30), (28, 29)]), (28, 30))
        self.assertEqual(track.liars_found(), [])

    def test_once_caught_they_stay_caught(self):
        track = Track(few=2, speed=5)
        track.see(0, [(0, 9), (0, 9), (0, 9), (0, 9), (70, 80)])
        self.assertEqual(track.liars_found(), [4])
        track.see(1, [(0, 9), (50, 60), (0, 9), (0, 9), (0, 9)])
        self.assertEqual(track.liars_found(), [1, 4])
        track.see(2, [(0, 9)] * 5)
        track.see(2, [(0, 9), (50, 60), (0, 9), (0, 9), (70, 80)])
        self.assertEqual(track.liars_found(), [1, 4])

    def test_more_than_few_may_be_caught_in_all(self):
        # Refused is alone what leaves nothing fused, or nothing in common.
        track = Track(few=1, speed=0)
        track.see(0, [(4, 6), (4, 6)])
        self.assertEqual(track.see(1, [(0, 0), (10, 10)]), (4, 6))
        self.assertEqual(track.liars_found(), [0, 1])

    def test_rising_beyond_ten(self):
        track = Track(few=5, speed=0)
        spans = [(5, 9)] * 40
        for sensor in (39, 10, 9, 2, 0):
            spans[sensor] = (100, 100)
        track.see(0, spans)
        self.assertEqual(track.liars_found(), [0, 2, 9, 10, 39])


class RefusedWhenMade(unittest.TestCase):
    def test_bad_few(self):
        for few in NO_FEW:
            for speed in (0, 1000, None):
                with self.assertRaises(BadNumber):
                    Track(few=few, speed=speed)

    def test_bad_speed(self):
        for speed in NO_WHOLE + (-1, 1001, 10 ** 5000):
            with self.assertRaises(BadNumber):
                Track(few=0, speed=speed)

    def test_few_and_speed_are_handed_in_by_their_names_alone(self):
        for things in ((), (1,), (1, 2)):
            with self.assertRaises(TypeError):
                Track(*things)


class RefusedThen(unittest.TestCase):
    def setUp(self):
        self.track = seen()
        self.track.see(12, [(0, 6), (2, 8), (50, 60)])

    def as_it_was(self):
        self.assertEqual(self.track.liars_found(), [2])
        self.assertEqual([self.track.guess(beat) for beat in (12, 13)], [(2, 6), (0, 8)])

    def refused(self, error, beat, spans):
        with self.subTest(error=error.__name__), self.assertRaises(error):
            self.track.see(beat, spans)
        self.as_it_was()

    def test_no_beat(self):
        for beat in NO_BEAT + (0, 11):
            self.refused(BadNumber, beat, FIRST)
            with self.assertRaises(BadNumber):
                self.track.guess(beat)
            self.as_it_was()

    def test_no_beat_at_first(self):
        for beat in NO_BEAT:
            track = Track(few=1, speed=2)
            with self.assertRaises(BadNumber):
                track.see(beat, FIRST)
            with self.assertRaises(NotNow):
                track.guess(10)

    def test_no_list_of_spans(self):
        for spans in NO_LIST + ([], [(0, 9)], [(0, 9)] * 41):
            self.refused(BadWorths, 13, spans)
        for span in NO_SPAN:
            self.refused(BadWorths, 13, [(0, 9), (0, 9), span])
        for number in NO_NUMBER:
            self.refused(BadWorths, 13, [(0, 9), (0, 9), (number, 1000000)])
            self.refused(BadWorths, 13, [(0, 9), (0, 9), (-1000000, number)])

    def test_no_more_spans_than_few(self):
        for few in range(6):
            track = Track(few=few, speed=0)
            with self.assertRaises(BadWorths):
                track.see(0, [(0, 9)] * few)

    def test_what_more_than_few_liars_would_tell(self):
        self.refused(BadWorths, 13, [(0, 1), (3, 4), (6, 7)])

    def test_what_can_not_be(self):
        # Two sensors agree, and the first is off, but nothing of that is in reach.
        self.refused(BadWorths, 13, [(0, 1), (9, 20), (9, 20)])

    def test_a_bad_beat_goes_ahead_of_bad_spans(self):
        for beat in (None, True, -1, 11, 100001):
            for spans in (None, [], [(2, 1)], [(0, 1), (3, 4), (6, 7)], [(90, 99)] * 3):
                self.refused(BadNumber, beat, spans)

    def test_behind_a_refusal_the_last_beat_is_as_it_was(self):
        self.refused(BadWorths, 90, [(0, 1), (3, 4), (6, 7)])
        self.refused(BadWorths, 90, [(900, 999)] * 3)
        self.assertEqual(self.track.see(12, FIRST), (5, 6))

    def test_refused_at_first_nothing_was_seen(self):
        track = Track(few=1, speed=2)
        for spans in (None, [(0, 1), (3, 4), (6, 7)]):
            with self.assertRaises(BadWorths):
                track.see(50, spans)
        with self.assertRaises(NotNow):
            track.guess(50)
        self.assertEqual(track.liars_found(), [])
        self.assertEqual(track.see(3, FIRST), (5, 15))

    def test_where_nothing_was_seen_that_goes_ahead_of_no_beat(self):
        for beat in NO_BEAT + (0, 10, 100000):
            with self.assertRaises(NotNow):
                Track(few=1, speed=2).guess(beat)


class NothingIsChanged(unittest.TestCase):
    def test_what_was_handed_in_is_as_it_was(self):
        spans = [(20, 30), (3, 8), (1, 5)]
        track = Track(few=1, speed=2)
        track.see(1, spans)
        track.see(2, spans)
        self.assertEqual(spans, [(20, 30), (3, 8), (1, 5)])

    def test_what_is_kept_is_a_copy(self):
        spans = [(20, 30), (3, 8), (1, 5)]
        track = Track(few=1, speed=2)
        track.see(1, spans)
        spans[1] = (90, 99)
        spans.clear()
        self.assertEqual(track.guess(1), (3, 5))
        self.assertEqual(track.liars_found(), [0])

    def test_what_is_told_is_new(self):
        track = Track(few=1, speed=2)
        track.see(1, [(20, 30), (3, 8), (1, 5)])
        told = track.liars_found()
        told.append(7)
        track.liars_found().clear()
        self.assertEqual(track.liars_found(), [0])
        track.see(2, [(3, 5), (3, 5), (20, 30)])
        self.assertEqual(told, [0, 7])

    def test_two_tracks_are_apart(self):
        track, other = Track(few=1, speed=2), Track(few=1, speed=2)
        track.see(10, [(20, 30), (3, 8), (1, 5)])
        self.assertEqual(other.liars_found(), [])
        with self.assertRaises(NotNow):
            other.guess(10)


class AgainstAllPoints(unittest.TestCase):
    """Reckoned anew by sets of points, over small runs of two beats."""

    def test_two_beats(self):
        small = [(low, high) for low in range(4) for high in range(low, 4)]
        for first in itertools.combinations(small, 2):
            for second in itertools.product(small, repeat=2):
                self.run_of_two(list(first), list(second))

    def run_of_two(self, first, second):
        track = Track(few=1, speed=1)
        place = self.hull(first)
        self.assertEqual(track.see(4, first), (min(place), max(place)))
        place = self.hull(second) & set(range(min(place) - 1, max(place) + 2))
        if not place:
            with self.assertRaises(BadWorths):
                track.see(5, second)
            return
        self.assertEqual(track.see(5, second), (min(place), max(place)))
        off = [sensor for sensor, (low, high) in enumerate(second) if not place & set(range(low, high + 1))]
        self.assertEqual(track.liars_found(), off)

    def hull(self, spans):
        ends = [end for span in spans for end in span]
        return set(range(min(ends), max(ends) + 1))


if __name__ == "__main__":
    unittest.main()

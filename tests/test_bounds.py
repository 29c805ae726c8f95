import unittest

from liarclocks.bounds import least_houses, most_liars
from liarclocks.errors import BadHouses, BadNumber
from liarclocks.meetings import Meeting, stuck
from liarclocks.pulses import Pulse
from things import NO_FEW, NO_WHOLE

WHAT = ("between", "nearer", "one word")
NO_WHAT = NO_WHOLE + (0, 5, "Between", "between ", "one", "word", "oneword", "nearer\n", ("between",), ["nearer"],
                      {"one word": 3})
NO_HOUSES = NO_WHOLE + (0, -1, 17, 10 ** 5000, -10 ** 5000)


class LeastHouses(unittest.TestCase):
    def test_of_each(self):
        told = {"between": [1, 3, 5, 7, 9, 11], "nearer": [1, 4, 7, 10, 13, 16], "one word": [1, 4, 7, 10, 13, 16]}
        for what in WHAT:
            self.assertEqual([least_houses(what, few=few) for few in range(6)], told[what])

    def test_of_anything_else_none(self):
        for what in NO_WHAT:
            for few in range(6):
                self.assertIsNone(least_houses(what, few=few))

    def test_no_few_goes_ahead(self):
        for few in NO_FEW:
            for what in WHAT + ("none", None, []):
                with self.assertRaises(BadNumber):
                    least_houses(what, few=few)

    def test_few_is_handed_in_by_its_name_alone(self):
        with self.assertRaises(TypeError):
            least_houses("between", 1)


class MostLiars(unittest.TestCase):
    def test_of_each(self):
        third = [0, 0, 0, 1, 1, 1, 2, 2, 2, 3, 3, 3, 4, 4, 4, 5]
        told = {"between": [0, 0, 1, 1, 2, 2, 3, 3, 4, 4, 5, 5, 5, 5, 5, 5], "nearer": third, "one word": third}
        for what in WHAT:
            self.assertEqual([most_liars(what, houses=houses) for houses in range(1, 17)], told[what])

    def test_it_fits_the_least_houses(self):
        for what in WHAT:
            for houses in range(1, 17):
                enough = [few for few in range(6) if least_houses(what, few=few) <= houses]
                self.assertEqual(most_liars(what, houses=houses), max(enough))

    def test_of_anything_else_none(self):
        for what in NO_WHAT:
            for houses in (1, 10, 16):
                self.assertIsNone(most_liars(what, houses=houses))

    def test_no_houses_go_ahead(self):
        for houses in NO_HOUSES:
            for what in WHAT + ("none", None, []):
                with self.assertRaises(BadNumber):
                    most_liars(what, houses=houses)

    def test_houses_are_handed_in_by_their_name_alone(self):
        with self.assertRaises(TypeError):
            most_liars("between", 4)


class TheyFitTheOthers(unittest.TestCase):
    def test_meetings_keep_between_with_so_many(self):
        for few in range(1, 6):
            least = least_houses("between", few=few)
            self.assertEqual(Meeting([0] * least, few=few).rounds(), 0)
            with self.assertRaises(BadHouses):
                Meeting([0] * (least - 1), few=few)

    def test_one_house_fewer_is_stuck(self):
        for few in range(1, 6):
            numbers, liars, lies = stuck(few)
            self.assertEqual(len(numbers), least_houses("nearer", few=few) - 1)
            meeting = Meeting(numbers, few=few, liars=liars)
            for times in range(10):
                meeting.meet(lies)
                self.assertEqual((meeting.numbers_now(), meeting.apart()), ([0] * few + [10] * few, 10))

    def test_one_house_more_comes_nearer(self):
        for few in range(1, 6):
            numbers, liars, lies = stuck(few)
            # An honest house behind the others, so that liars and lies stay as they were.
            numbers.append(0)
            meeting = Meeting(numbers, few=few, liars=liars)
            meeting.meet(lies)
            self.assertLessEqual(meeting.apart(), 5)

    def test_strikes_need_so_many(self):
        for few in range(1, 6):
            least = least_houses("one word", few=few)
            self.assertEqual(len(Pulse(least, few=few).honest()), least)
            with self.assertRaises(BadHouses):
                Pulse(least - 1, few=few)


if __name__ == "__main__":
    unittest.main()

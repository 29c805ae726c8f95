import unittest

from liarclocks import errors

NAMES = ("BadNumber", "BadWorths", "BadLies", "BadHouses", "NoHouse", "NoLetter", "NotNow", "BadTable", "BadSaying")


class Standing(unittest.TestCase):
    def test_liar_error_stands_straight_under_value_error(self):
        self.assertEqual(errors.LiarError.__bases__, (ValueError,))

    def test_each_refusal_stands_under_liar_error(self):
        for name in NAMES:
            with self.subTest(name):
                self.assertTrue(issubclass(getattr(errors, name), errors.LiarError))

    def test_no_refusal_stands_under_another_one(self):
        for name in NAMES:
            for other in NAMES:
                if name != other:
                    with self.subTest(name=name, other=other):
                        self.assertFalse(issubclass(getattr(errors, name), getattr(errors, other)))

    def test_there_are_no_other_refusals(self):
        classes = [name for name, thing in vars(errors).items() if isinstance(thing, type)]
        self.assertEqual(sorted(classes), sorted(NAMES + ("LiarError",)))

    def test_each_refusal_is_taken_as_value_error(self):
        for name in NAMES:
            with self.subTest(name), self.assertRaises(ValueError):
                raise getattr(errors, name)("why")


class TheHouse(unittest.TestCase):
    def test_no_house_has_the_field_house(self):
        for house in (3, -1, None, "a", (1, 2), [1], True, 10 ** 5000):
            error = errors.NoHouse(house)
            self.assertIs(error.house, house)
            self.assertIsInstance(str(error), str)

    def test_no_house_can_be_raised_and_taken(self):
        with self.assertRaises(errors.NoHouse) as taken:
            raise errors.NoHouse(7)
        self.assertEqual(taken.exception.house, 7)

    def test_no_house_is_not_made_without_a_house(self):
        with self.assertRaises(TypeError):
            errors.NoHouse()


if __name__ == "__main__":
    unittest.main()

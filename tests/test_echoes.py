import itertools
import random
import unittest

from liarclocks.echoes import Echo
from liarclocks.errors import BadHouses, BadLies, BadNumber, NoHouse, NoLetter, NotNow
from things import NO_FEW, NO_ROW, NO_WHOLE

NO_HOUSES = NO_WHOLE + (0, -1, 17, 10 ** 5000, -10 ** 5000)
NO_WORD_NUMBER = NO_WHOLE + (-1, 1000, 10 ** 5000, -10 ** 5000)
NO_WORD = (None, True, False, 0, 1, "", "First", "first ", "took", "fir", b"first", [], ["first"], ("first",), {},
           {"first": 1}, set(), object(), str)


def four(sender=0):
    """House 3 lies."""
    return Echo(4, few=1, sender=sender, liars=(3,))


def state(echo):
    houses = echo.honest()
    return (houses, echo.letters(), [echo.took(house) for house in houses], [echo.stage(house) for house in houses])


def to_all(sender, houses, what):
    return [(sender, house, what) for house in houses]


def bring(echo, *letters):
    """Let the oldest such letters come, one behind the other."""
    for letter in letters:
        echo.come(echo.letters().index(letter))


def bring_all(echo, pick=lambda letters: 0):
    """Let letters come till none is on its way."""
    while echo.letters():
        echo.come(pick(echo.letters()))


def lied(echo, liar, house, word, number):
    """Let a liar's letter be written and come."""
    echo.lie(liar, house, word, number)
    echo.come(len(echo.letters()) - 1)


def firsts_came(houses, few):
    """The sender is house 0 and nobody lies; all have echoed 5."""
    echo = Echo(houses, few=few)
    echo.send(5)
    bring(echo, *to_all(0, range(houses), ("first", 5)))
    return echo


def all_but_0_ready(houses, few):
    """All but house 0 have all echoes of 5, and were ready."""
    echo = firsts_came(houses, few)
    for house, sender in itertools.product(range(1, houses), range(houses)):
        bring(echo, (sender, house, ("echo", 5)))
    return echo


class Made(unittest.TestCase):
    def test_at_first(self):
        self.assertEqual(state(four()), ([0, 1, 2], [], [None] * 3, [0] * 3))

    def test_liars_may_be_left_out(self):
        self.assertEqual(Echo(4, few=1).honest(), [0, 1, 2, 3])

    def test_liars_are_a_list_or_a_tuple(self):
        for liars in ([0, 4], (0, 4)):
            self.assertEqual(Echo(7, few=2, liars=liars).honest(), [1, 2, 3, 5, 6])

    def test_one_more_than_three_times_few(self):
        for few in range(6):
            self.assertEqual(Echo(3 * few + 1, few=few).honest(), list(range(3 * few + 1)))

    def test_one_and_sixteen_houses(self):
        self.assertEqual(Echo(1, few=0).honest(), [0])
        self.assertEqual(Echo(16, few=5, sender=15, liars=[0, 1, 2, 3, 4]).honest(), list(range(5, 16)))

    def test_any_house_may_be_the_sender(self):
        for sender in (0, 1, 2):
            echo = four(sender=sender)
            echo.send(9)
            self.assertEqual(echo.letters(), to_all(sender, (0, 1, 2), ("first", 9)))


class Send(unittest.TestCase):
    def test_the_sender_is_house_0_unless_told(self):
        echo = four()
        self.assertIsNone(echo.send(7))
        self.assertEqual(echo.letters(), [(0, 0, ("first", 7)), (0, 1, ("first", 7)), (0, 2, ("first", 7))])
        self.assertEqual([echo.stage(house) for house in (0, 1, 2)], [0, 0, 0])

    def test_numbers_at_their_bounds(self):
        for number in (0, 999):
            echo = four()
            echo.send(number)
            bring_all(echo)
            self.assertEqual([echo.took(house) for house in (0, 1, 2)], [number] * 3)

    def test_once(self):
        echo = four()
        echo.send(7)
        before = state(echo)
        for number in (7, 8):
            with self.assertRaises(NotNow):
                echo.send(number)
        self.assertEqual(state(echo), before)
        bring_all(echo)
        with self.assertRaises(NotNow):
            echo.send(7)

    def test_no_liar(self):
        echo = four(sender=3)
        with self.assertRaises(NotNow):
            echo.send(7)
        self.assertEqual(echo.letters(), [])


class Lie(unittest.TestCase):
    def test_letters_of_a_liar(self):
        echo = four()
        self.assertIsNone(echo.lie(3, 1, "ready", 0))
        echo.lie(3, 0, "first", 999)
        echo.lie(3, 1, "echo", 5)
        echo.lie(3, 1, "ready", 0)
        self.assertEqual(echo.letters(), [(3, 1, ("ready", 0)), (3, 0, ("first", 999)), (3, 1, ("echo", 5)),
                                          (3, 1, ("ready", 0))])


class First(unittest.TestCase):
    def test_it_is_echoed_to_all(self):
        echo = four()
        echo.send(7)
        self.assertEqual(echo.come(1), (0, 1, ("first", 7)))
        self.assertEqual(echo.letters(), to_all(0, (0, 2), ("first", 7)) + to_all(1, (0, 1, 2), ("echo", 7)))
        self.assertEqual([echo.stage(house) for house in (0, 1, 2)], [0, 1, 0])

    def test_of_others_than_the_sender_it_is_nothing(self):
        echo = four()
        for house in (0, 1, 2):
            lied(echo, 3, house, "first", 7)
        self.assertEqual(state(echo), state(four()))

    def test_it_is_echoed_once(self):
        echo = four(sender=3)
        lied(echo, 3, 1, "first", 7)
        self.assertEqual(echo.letters(), to_all(1, (0, 1, 2), ("echo", 7)))
        lied(echo, 3, 1, "first", 8)
        lied(echo, 3, 1, "first", 7)
        self.assertEqual(echo.letters(), to_all(1, (0, 1, 2), ("echo", 7)))
        self.assertEqual(echo.stage(1), 1)

    def test_who_was_ready_echoes_all_the_same(self):
        echo = four(sender=3)
        for house in (0, 1):
            lied(echo, 3, house, "first", 7)
            bring(echo, (house, 2, ("echo", 7)))
        lied(echo, 3, 2, "echo", 7)
        self.assertEqual(echo.stage(2), 2)
        lied(echo, 3, 2, "first", 8)
        self.assertEqual(echo.letters()[-3:], to_all(2, (0, 1, 2), ("echo", 8)))
        self.assertEqual(echo.stage(2), 2)


class Echoes(unittest.TestCase):
    def test_just_half_of_houses_and_few_together_and_one_more(self):
        for houses, few, enough in ((1, 0, 1), (2, 0, 2), (3, 0, 2), (4, 1, 3), (5, 1, 4), (6, 1, 4), (7, 2, 5),
                                    (8, 2, 6), (16, 5, 11), (16, 4, 11), (16, 0, 9)):
            echo = firsts_came(houses, few)
            for many, sender in enumerate(reversed(range(houses)), start=1):
                bring(echo, (sender, 0, ("echo", 5)))
                self.assertEqual(echo.stage(0), 2 if many >= enough else 1)
                ready = [letter for letter in echo.letters() if letter[2] == ("ready", 5)]
                self.assertEqual(ready, to_all(0, range(houses), ("ready", 5)) if many >= enough else [])

    def test_echoes_of_one_house_count_once(self):
        echo = four()
        echo.send(7)
        bring(echo, (0, 0, ("first", 7)))
        for times in range(4):
            lied(echo, 3, 1, "echo", 7)
        bring(echo, (0, 1, ("echo", 7)))
        self.assertEqual(echo.stage(1), 0)
        bring(echo, (0, 1, ("first", 7)), (1, 1, ("echo", 7)))
        self.assertEqual(echo.stage(1), 2)

    def test_echoes_of_unlike_numbers_do_not_count_together(self):
        echo = four(sender=3)
        lied(echo, 3, 0, "first", 1)
        lied(echo, 3, 1, "first", 1)
        lied(echo, 3, 2, "first", 2)
        bring(echo, (0, 0, ("echo", 1)), (1, 0, ("echo", 1)), (2, 0, ("echo", 2)))
        lied(echo, 3, 0, "echo", 2)
        self.assertEqual(echo.stage(0), 1)
        lied(echo, 3, 0, "echo", 1)
        self.assertEqual(echo.stage(0), 2)
        self.assertEqual(echo.letters()[-3:], to_all(0, (0, 1, 2), ("ready", 1)))

    def test_letters_ready_do_not_count_as_echoes(self):
        echo = four()
        echo.send(7)
        bring(echo, (0, 0, ("first", 7)), (0, 1, ("first", 7)))
        lied(echo, 3, 0, "ready", 7)
        bring(echo, (0, 0, ("echo", 7)), (1, 0, ("echo", 7)))
        self.assertEqual(echo.stage(0), 1)

    def test_without_a_first_echoes_are_enough(self):
        echo = four()
        echo.send(7)
        bring(echo, (0, 0, ("first", 7)), (0, 1, ("first", 7)))
        bring(echo, (0, 2, ("echo", 7)), (1, 2, ("echo", 7)))
        self.assertEqual(echo.stage(2), 0)
        lied(echo, 3, 2, "echo", 7)
        self.assertEqual(echo.stage(2), 2)
        self.assertEqual(echo.letters()[-3:], to_all(2, (0, 1, 2), ("ready", 7)))


class Readies(unittest.TestCase):
    def test_just_few_one_more_twice_few_and_one_more(self):
        for few in range(1, 6):
            houses = 3 * few + 1
            echo = all_but_0_ready(houses, few)
            for many in range(1, houses):
                bring(echo, (many, 0, ("ready", 5)))
                self.assertEqual(echo.stage(0), 3 if many > 2 * few else 2 if many > few else 1)
                self.assertEqual(echo.took(0), 5 if many > 2 * few else None)
                own = [letter for letter in echo.letters() if letter[0] == 0 and letter[2] == ("ready", 5)]
                self.assertEqual(own, to_all(0, range(houses), ("ready", 5)) if many > few else [])

    def test_few_0_takes_with_the_first(self):
        echo = all_but_0_ready(2, 0)
        self.assertEqual(echo.letters(), to_all(0, (0,), ("echo", 5)) + to_all(1, (0,), ("echo", 5))
                         + to_all(1, (0, 1), ("ready", 5)))
        self.assertEqual(echo.come(2), (1, 0, ("ready", 5)))
        self.assertEqual((echo.stage(0), echo.took(0)), (3, 5))
        self.assertEqual(echo.letters()[-2:], to_all(0, (0, 1), ("ready", 5)))

    def test_one_house_by_itself(self):
        echo = Echo(1, few=0)
        echo.send(3)
        told = [(echo.come(0), echo.stage(0), echo.took(0)) for times in range(3)]
        self.assertEqual(told, [((0, 0, ("first", 3)), 1, None), ((0, 0, ("echo", 3)), 2, None),
                                ((0, 0, ("ready", 3)), 3, 3)])
        self.assertEqual(echo.letters(), [])

    def test_letters_of_one_house_count_once(self):
        echo = Echo(7, few=2, liars=(5, 6))
        for times in range(3):
            lied(echo, 5, 0, "ready", 7)
            lied(echo, 6, 0, "ready", 7)
        self.assertEqual(state(echo), state(Echo(7, few=2, liars=(5, 6))))

    def test_unlike_numbers_do_not_count_together(self):
        echo = Echo(7, few=2, liars=(5, 6))
        for liar, number in itertools.product((5, 6), range(1000)):
            lied(echo, liar, 0, "ready", number)
        self.assertEqual((echo.stage(0), echo.letters()), (0, []))

    def test_echoes_do_not_count_as_ready(self):
        echo = four()
        echo.send(7)
        bring(echo, (0, 0, ("first", 7)))
        bring(echo, (0, 1, ("echo", 7)))
        lied(echo, 3, 1, "ready", 7)
        self.assertEqual(echo.stage(1), 0)

    def test_ready_once(self):
        echo = all_but_0_ready(4, 1)
        bring(echo, *[(sender, 0, ("echo", 5)) for sender in range(4)])
        before = len(echo.letters())
        self.assertEqual(echo.stage(0), 2)
        bring(echo, *[(sender, 0, ("ready", 5)) for sender in range(4)])
        self.assertEqual(len(echo.letters()), before - 4)

    def test_behind_the_taking_nothing_more_is_written(self):
        echo = four()
        echo.send(4)
        bring_all(echo)
        for word, number in itertools.product(("first", "echo", "ready"), (4, 5)):
            lied(echo, 3, 0, word, number)
        self.assertEqual(state(echo), ([0, 1, 2], [], [4] * 3, [3] * 3))


class ManyOrders(unittest.TestCase):
    def test_an_honest_sender_by_hand(self):
        echo = four()
        echo.send(7)
        # The oldest come first: three times "first", nine echoes, then letters "ready".
        for times in range(3):
            echo.come(0)
        echoes = [to_all(house, (0, 1, 2), ("echo", 7)) for house in (0, 1, 2)]
        self.assertEqual(echo.letters(), echoes[0] + echoes[1] + echoes[2])
        for times in range(9):
            echo.come(0)
        self.assertEqual([echo.stage(house) for house in (0, 1, 2)], [2, 2, 2])
        for times in range(6):
            echo.come(0)
        self.assertEqual([echo.took(house) for house in (0, 1, 2)], [None] * 3)
        for times in range(3):
            echo.come(0)
        self.assertEqual(state(echo), ([0, 1, 2], [], [7] * 3, [3] * 3))

    def test_a_sender_that_writes_unlike_numbers(self):
        echo = four(sender=3)
        echo.lie(3, 0, "first", 1)
        echo.lie(3, 1, "first", 1)
        echo.lie(3, 2, "first", 2)
        echo.lie(3, 0, "echo", 1)
        bring_all(echo)
        # House 0 alone has three echoes of 1, so that one letter "ready" comes to each: too few.
        self.assertEqual(([echo.took(house) for house in (0, 1, 2)], [echo.stage(house) for house in (0, 1, 2)]),
                         ([None] * 3, [2, 1, 1]))
        # With one of the liar house 2 is ready behind house 0, and then all are.
        echo.lie(3, 2, "ready", 1)
        bring_all(echo)
        self.assertEqual(state(echo), ([0, 1, 2], [], [1] * 3, [3] * 3))

    def test_by_chance_all_take_one_number_or_none_does(self):
        chance = random.Random(12)
        for run in range(120):
            few = chance.randrange(1, 4)
            houses = 3 * few + 1
            liars = sorted(chance.sample(range(houses), few))
            sender = chance.randrange(houses)
            echo = Echo(houses, few=few, sender=sender, liars=liars)
            if sender not in liars:
                echo.send(1)
            for liar, house, word in itertools.product(liars, echo.honest(), ("first", "echo", "ready")):
                if chance.random() < 0.7:
                    echo.lie(liar, house, word, chance.choice((1, 2, 2)))
            bring_all(echo, pick=lambda letters: chance.randrange(len(letters)))
            taken = [echo.took(house) for house in echo.honest()]
            self.assertEqual(len(set(taken)), 1)
            if sender not in liars:
                self.assertEqual(taken[0], 1)

    def test_in_many_orders_an_honest_word_is_taken(self):
        for order in itertools.permutations(range(5)):
            echo = four(sender=1)
            echo.send(500)
            echo.lie(3, 0, "ready", 2)
            echo.lie(3, 2, "echo", 2)
            bring_all(echo, pick=lambda letters: order[len(letters) % 5] % len(letters))
            self.assertEqual([echo.took(house) for house in (0, 1, 2)], [500] * 3)


class RefusedWhenMade(unittest.TestCase):
    def refused(self, refusal, *things, **named):
        with self.assertRaises(refusal) as taken:
            Echo(*things, **named)
        return taken.exception

    def test_no_houses(self):
        for houses in NO_HOUSES:
            self.refused(BadNumber, houses, few=0)
            self.refused(BadNumber, houses, few=5, sender=None, liars=None)

    def test_no_few(self):
        for few in NO_FEW:
            self.refused(BadNumber, 16, few=few)
            self.refused(BadNumber, 1, few=few, sender=None, liars=None)

    def test_no_more_than_three_times_few(self):
        for few in range(1, 6):
            self.refused(BadHouses, 3 * few, few=few)
            self.refused(BadHouses, 1, few=few, sender=None, liars=None)

    def test_no_liars(self):
        for liars in NO_ROW + ([7], [-1], [0, 0], [1, 0], [0, 1, 2], [True], [None], [[0]], [10 ** 5000], (0, None)):
            self.refused(BadHouses, 7, few=2, liars=liars)
            self.refused(BadHouses, 7, few=2, sender=None, liars=liars)

    def test_no_sender(self):
        for sender in NO_WHOLE + (-1, 4, 10 ** 5000):
            self.assertIs(self.refused(NoHouse, 4, few=1, sender=sender).house, sender)

    def test_all_but_houses_are_handed_in_by_their_names_alone(self):
        self.refused(TypeError, 4, 1)
        self.refused(TypeError, 4)


class Refused(unittest.TestCase):
    """House 0 has sent 7, house 1 has echoed, and house 3 lies."""

    def setUp(self):
        self.echo = self.made()
        self.before = state(self.echo)

    def made(self):
        echo = four()
        echo.send(7)
        bring(echo, (0, 1, ("first", 7)))
        echo.lie(3, 1, "echo", 7)
        return echo

    def refused(self, refusal, deed, *things):
        with self.assertRaises(refusal) as taken:
            deed(*things)
        self.assertEqual(state(self.echo), self.before)
        return taken.exception

    def test_no_honest_house(self):
        for house in NO_WHOLE + (3, -1, 4, 10 ** 5000):
            self.assertIs(self.refused(NoHouse, self.echo.took, house).house, house)
            self.assertIs(self.refused(NoHouse, self.echo.stage, house).house, house)
            for word, number in (("echo", 5), (None, None), ("none", 5000)):
                self.assertIs(self.refused(NoHouse, self.echo.lie, 3, house, word, number).house, house)

    def test_no_liar(self):
        for liar in NO_WHOLE + (0, 1, 2, -1, 4, 10 ** 5000):
            for house in (0, 3, None, 9):
                self.assertIs(self.refused(NoHouse, self.echo.lie, liar, house, "echo", 5).house, liar)
            self.assertIs(self.refused(NoHouse, self.echo.lie, liar, None, None, None).house, liar)

    def test_true_and_false_are_no_liars(self):
        echo = Echo(7, few=2, liars=(0, 1))
        for liar in (False, True):
            with self.assertRaises(NoHouse):
                echo.lie(liar, 2, "echo", 1)
        self.assertEqual(echo.letters(), [])

    def test_no_word(self):
        for word in NO_WORD:
            self.refused(BadLies, self.echo.lie, 3, 0, word, 5)
            self.refused(BadLies, self.echo.lie, 3, 0, word, None)

    def test_no_number_of_a_word(self):
        for number in NO_WORD_NUMBER:
            for word in ("first", "echo", "ready"):
                self.refused(BadNumber, self.echo.lie, 3, 0, word, number)
            self.refused(BadNumber, self.echo.send, number)

    def test_no_number_goes_ahead_of_a_sender_that_lies(self):
        echo = four(sender=3)
        for number in NO_WORD_NUMBER:
            with self.assertRaises(BadNumber):
                echo.send(number)

    def test_no_letter(self):
        for at in NO_WHOLE + (-1, 6, 100, 10 ** 5000, -10 ** 5000):
            self.refused(NoLetter, self.echo.come, at)

    def test_no_letter_where_none_is_on_its_way(self):
        echo = four()
        for at in (0, -1, 1, None):
            with self.assertRaises(NoLetter):
                echo.come(at)

    def test_behind_refusals_all_goes_on_as_without_them(self):
        other = self.made()
        self.refused(NotNow, self.echo.send, 8)
        self.refused(BadNumber, self.echo.lie, 3, 0, "ready", 1000)
        self.refused(NoLetter, self.echo.come, 6)
        for echo in (self.echo, other):
            for times in range(4):
                echo.come(0)
        self.assertEqual(state(self.echo), state(other))
        bring_all(self.echo)
        self.assertEqual(state(self.echo), ([0, 1, 2], [], [7] * 3, [3] * 3))


class NothingIsChanged(unittest.TestCase):
    def test_liars_are_kept_as_a_copy(self):
        liars = [3]
        echo = Echo(4, few=1, liars=liars)
        echo.send(1)
        bring_all(echo)
        self.assertEqual(liars, [3])
        liars[0] = 0
        self.assertEqual(echo.honest(), [0, 1, 2])

    def test_what_is_told_is_new(self):
        echo = four()
        echo.send(7)
        before = state(echo)
        echo.honest().clear()
        echo.letters().clear()
        echo.letters().append((0, 0, ("first", 1)))
        self.assertEqual(state(echo), before)

    def test_what_was_told_stays(self):
        echo = four()
        echo.send(7)
        told = echo.letters()
        bring_all(echo)
        self.assertEqual(told, to_all(0, (0, 1, 2), ("first", 7)))

    def test_two_are_apart(self):
        echo, other = four(), four()
        echo.send(7)
        bring_all(echo)
        self.assertEqual(state(other), state(four()))


if __name__ == "__main__":
    unittest.main()

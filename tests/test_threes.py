import copy
import itertools
import random
import unittest

from liarclocks.errors import BadNumber, BadTable
from liarclocks.threes import Rules, broken, words_with
from things import NO_LIST, NO_WHOLE

# By what is known behind one round: its own bit, the one from the house ahead, the one from the next house.
OWN = [0, 0, 0, 0, 1, 1, 1, 1]
AHEAD = [0, 0, 1, 1, 0, 0, 1, 1]
NEXT = [0, 1, 0, 1, 0, 1, 0, 1]
MOST = [0, 0, 0, 1, 0, 1, 1, 1]
BIT = [0, 1]
OTHER_BIT = [1, 0]
NO_BIT = NO_WHOLE + (-1, 2, 10 ** 5000)


def one_round(last, to_next=tuple(BIT), to_ahead=tuple(BIT)):
    """All three houses go by the same rule of one round."""
    return [([(list(to_next), list(to_ahead))], list(last)) for house in range(3)]


def two_rounds(last):
    """All write their bits, then to the next house what came from ahead, and to the house ahead what came from next."""
    return [([(list(BIT), list(BIT)), (list(AHEAD), list(NEXT))], list(last)) for house in range(3)]


def just_at(place, many):
    """So many bits, 1 at one place alone."""
    return [1 if at == place else 0 for at in range(many)]


def any_rules(chance, rounds):
    def bits(many):
        return [chance.randrange(2) for bit in range(many)]
    return [([(bits(many), bits(many)) for many in (2, 8)[:rounds]], bits((8, 32)[rounds - 1])) for house in range(3)]


def figures(bits):
    return int("".join(str(bit) for bit in bits), 2)


def slow_words(table, bits, liar, lies):
    """The last words once more, letter by letter, to hold the other ones against."""
    follows, leads = {0: 1, 1: 2, 2: 0}, {1: 0, 2: 1, 0: 2}
    known = {house: [bits[house]] for house in range(3)}
    for at in range(len(lies)):
        letters = {}
        for house in range(3):
            to_next, to_ahead = lies[at]
            if house != liar:
                to_next, to_ahead = (row[figures(known[house])] for row in table[house][0][at])
            letters[(house, follows[house])] = to_next
            letters[(house, leads[house])] = to_ahead
        for house in range(3):
            known[house] += [letters[(leads[house], house)], letters[(follows[house], house)]]
    return [table[house][1][figures(known[house])] for house in range(3) if house != liar]


def breaks(bits, liar, words):
    own = [bits[house] for house in range(3) if house != liar]
    return words[0] != words[1] or (own[0] == own[1] and words != own)


class WordsWith(unittest.TestCase):
    def test_the_most_of_three(self):
        rules = Rules(one_round(MOST))
        # House 1 knows 1, 0, 1 and house 2 knows 1, 1, 1.
        self.assertEqual(words_with(rules, [0, 1, 1], liar=0, lies=[(0, 1)]), [1, 1])
        # House 0 knows 0, 0, 1 and house 1 knows 1, 0, 1.
        self.assertEqual(words_with(rules, [0, 1, 1], liar=2, lies=[(0, 1)]), [0, 1])

    def test_what_comes_from_the_house_ahead(self):
        rules = Rules(one_round(AHEAD, to_ahead=OTHER_BIT))
        self.assertEqual(words_with(rules, [0, 1, 1], liar=2, lies=[(0, 1)]), [0, 0])
        self.assertEqual(words_with(rules, [0, 1, 1], liar=2, lies=[(1, 0)]), [1, 0])
        self.assertEqual(words_with(rules, [0, 1, 1], liar=1, lies=[(1, 0)]), [1, 1])
        self.assertEqual(words_with(rules, [0, 1, 1], liar=1, lies=[(0, 1)]), [1, 0])
        self.assertEqual(words_with(rules, [0, 1, 0], liar=0, lies=[(1, 0)]), [1, 1])
        self.assertEqual(words_with(rules, [0, 1, 0], liar=0, lies=[(0, 1)]), [0, 1])

    def test_what_comes_from_the_next_house(self):
        rules = Rules(one_round(NEXT, to_ahead=OTHER_BIT))
        self.assertEqual(words_with(rules, [0, 1, 1], liar=2, lies=[(0, 1)]), [0, 1])
        self.assertEqual(words_with(rules, [0, 1, 1], liar=2, lies=[(1, 0)]), [0, 0])
        self.assertEqual(words_with(rules, [0, 1, 1], liar=1, lies=[(1, 0)]), [0, 1])
        self.assertEqual(words_with(rules, [0, 1, 1], liar=1, lies=[(0, 1)]), [1, 1])
        self.assertEqual(words_with(rules, [0, 1, 0], liar=0, lies=[(1, 0)]), [1, 0])
        self.assertEqual(words_with(rules, [0, 1, 0], liar=0, lies=[(0, 1)]), [1, 1])

    def test_its_own_bit(self):
        rules = Rules(one_round(OWN))
        for bits in ([0, 1, 0], [1, 1, 0], [0, 0, 1]):
            for liar in range(3):
                own = [bits[house] for house in range(3) if house != liar]
                self.assertEqual(words_with(rules, bits, liar=liar, lies=[(1, 1)]), own)

    def test_the_first_bit_is_the_greatest(self):
        # House 0 knows 1, 1, 0, which is 6; house 1 knows 0, 1, 0, which is 2.
        for place in range(8):
            rules = Rules(one_round(just_at(place, 8)))
            told = words_with(rules, [1, 0, 0], liar=2, lies=[(1, 0)])
            self.assertEqual(told, [1 if place == 6 else 0, 1 if place == 2 else 0])

    def test_two_rounds(self):
        # Behind the first round house 0 knows 1, 0, 0 and house 1 knows 0, 1, 1.
        # House 0 writes 0 to house 1, house 1 writes 1 to house 0: 1, 0, 0, 1, 1 is 19 and 0, 1, 1, 0, 0 is 12.
        for place in range(32):
            rules = Rules(two_rounds(just_at(place, 32)))
            told = words_with(rules, [1, 0, 1], liar=2, lies=[(0, 1), (1, 0)])
            self.assertEqual(told, [1 if place == 19 else 0, 1 if place == 12 else 0])

    def test_each_house_goes_by_its_own_rule(self):
        table = one_round([0] * 8)
        table[1] = ([([1, 1], [0, 0])], [1] * 8)
        rules = Rules(table)
        self.assertEqual(words_with(rules, [0, 0, 0], liar=0, lies=[(0, 0)]), [1, 0])
        self.assertEqual(words_with(rules, [0, 0, 0], liar=1, lies=[(0, 0)]), [0, 0])
        self.assertEqual(words_with(rules, [0, 0, 0], liar=2, lies=[(0, 0)]), [0, 1])

    def test_the_liars_bit_is_nothing(self):
        chance = random.Random(3)
        for rounds in (1, 2):
            rules = Rules(any_rules(chance, rounds))
            for liar, bit in itertools.product(range(3), range(2)):
                bits, lies = [0, 1, 1], [(0, 1)] * rounds
                told = words_with(rules, bits, liar=liar, lies=lies)
                bits[liar] = bit
                self.assertEqual(words_with(rules, bits, liar=liar, lies=lies), told)

    def test_against_slow_ones(self):
        chance = random.Random(15)
        for rounds in (1, 2) * 10:
            table = any_rules(chance, rounds)
            rules = Rules(table)
            pairs = list(itertools.product((0, 1), repeat=2))
            for bits, liar in itertools.product(itertools.product((0, 1), repeat=3), range(3)):
                for lies in itertools.product(pairs, repeat=rounds):
                    told = words_with(rules, list(bits), liar=liar, lies=list(lies))
                    self.assertEqual(told, slow_words(table, bits, liar, lies))


class Broken(unittest.TestCase):
    def breaks(self, table):
        told = broken(Rules(table))
        self.assertIsInstance(told, tuple)
        bits, liar, lies = told
        self.assertEqual([type(thing) for thing in told], [list, int, list])
        words = words_with(Rules(table), bits, liar=liar, lies=lies)
        self.assertTrue(breaks(bits, liar, words), (table, told))
        self.assertEqual(words, slow_words(table, bits, liar, lies))

    def test_the_most_of_three(self):
        self.breaks(one_round(MOST))

    def test_rules_of_one_thing_that_is_known(self):
        for last in (OWN, AHEAD, NEXT, just_at(0, 8), just_at(7, 8)):
            self.breaks(one_round(last))
        for shift in range(5):
            self.breaks(two_rounds([place >> shift & 1 for place in range(32)]))

    def test_rules_that_write_and_say_always_the_same(self):
        for to_next, to_ahead, last in itertools.product((0, 1), repeat=3):
            self.breaks(one_round([last] * 8, [to_next] * 2, [to_ahead] * 2))
        for one, two, three, four, last in itertools.product((0, 1), repeat=5):
            rule = ([([one] * 2, [two] * 2), ([three] * 8, [four] * 8)], [last] * 32)
            self.breaks([rule, rule, rule])

    def test_rules_that_say_always_the_same_but_not_all(self):
        for words in itertools.product((0, 1), repeat=3):
            self.breaks([([(list(BIT), list(BIT))], [word] * 8) for word in words])

    def test_rules_that_keep_their_bits_unless_all_others_are_unlike(self):
        keep = [0, 0, 0, 1, 0, 1, 1, 1]
        last = [keep[4 * (place >> 4) + (place & 3)] for place in range(32)]
        self.breaks(two_rounds(last))

    def test_all_say_what_one_house_wrote(self):
        for house in range(3):
            table = one_round(OWN)
            table[(house + 1) % 3] = ([(list(BIT), list(BIT))], list(AHEAD))
            table[(house + 2) % 3] = ([(list(BIT), list(BIT))], list(NEXT))
            self.breaks(table)
            bits, liar, lies = broken(Rules(table))
            self.assertEqual(liar, house)
            self.assertIn(lies, ([(0, 1)], [(1, 0)]))

    def test_rules_that_break_by_one_writing_alone(self):
        # All write 1 to the next house always, or to the house ahead, so that a liar's 0 there is known as a lie.
        next_1 = [([([1, 1], [1, 0])], [0, 1, 0, 0, 0, 1, 1, 1]), ([([1, 1], [0, 1])], [0, 1, 0, 0, 0, 1, 1, 1]),
                  ([([1, 1], [0, 1])], [1, 0, 0, 0, 1, 0, 1, 1])]
        ahead_1 = [([([0, 1], [1, 1])], [1, 0, 0, 0, 1, 1, 0, 1]), ([([0, 1], [1, 1])], [0, 0, 1, 0, 0, 1, 1, 1]),
                   ([([1, 0], [1, 1])], [0, 0, 1, 0, 0, 1, 1, 1])]
        for table, at in ((next_1, 0), (ahead_1, 1)):
            self.breaks(table)
            self.assertEqual(broken(Rules(table))[2][0][at], 1)

    def test_by_chance(self):
        chance = random.Random(16)
        for run in range(300):
            self.breaks(any_rules(chance, 1))
            self.breaks(any_rules(chance, 2))

    def test_by_chance_rules_that_hold_without_lies(self):
        chance = random.Random(17)
        for run in range(200):
            table = any_rules(chance, 2)
            for rounds, last in table:
                last[:8], last[24:] = [0] * 8, [1] * 8
            self.breaks(table)


class RefusedWhenMade(unittest.TestCase):
    def refused(self, table):
        with self.assertRaises(BadTable):
            Rules(table)

    def test_no_list(self):
        for thing in NO_LIST + (tuple(one_round(MOST)), dict(enumerate(one_round(MOST)))):
            self.refused(thing)

    def test_not_three(self):
        for many in (0, 1, 2, 4):
            self.refused((one_round(MOST) * 2)[:many])

    def each(self, table, rule):
        """Put a rule in place of each one of a table."""
        for house in range(3):
            self.refused(table[:house] + [rule] + table[house + 1:])

    def test_no_rule(self):
        rounds, last = one_round(MOST)[0]
        for thing in NO_WHOLE + (5, "ab", [rounds, last], (rounds,), (rounds, last, last), (last, rounds), {0: 1}):
            self.each(one_round(MOST), thing)

    def test_no_rounds(self):
        pair = (list(BIT), list(BIT))
        second = (list(AHEAD), list(NEXT))
        for rounds in NO_LIST + ([], (pair,), [pair, pair], [second], [pair, second, second], [None], [list(pair)],
                                 [(BIT,)], [(BIT, BIT, BIT)], pair):
            self.each(one_round(MOST), (rounds, list(MOST)))
        for rounds in ([pair], [pair, pair], [second, pair], [pair, second, second], [pair, None], [second, second],
                       [pair, list(second)], (pair, second)):
            self.each(two_rounds([0] * 32), (rounds, [0] * 32))

    def test_no_last_words(self):
        for last in NO_LIST + ([], [0] * 7, [0] * 9, [0] * 32, [0] * 2, tuple(MOST)):
            self.each(one_round(MOST), ([(list(BIT), list(BIT))], last))
        for last in ([0] * 8, [0] * 31, [0] * 33, [0] * 128, (0,) * 32):
            self.each(two_rounds([0] * 32), ([(list(BIT), list(BIT)), (list(AHEAD), list(NEXT))], last))

    def test_no_bits(self):
        for thing in NO_BIT:
            self.each(one_round(MOST), ([([0, thing], [0, 1])], list(MOST)))
            self.each(one_round(MOST), ([([0, 1], [thing, 1])], list(MOST)))
            self.each(one_round(MOST), ([([0, 1], [0, 1])], [0] * 7 + [thing]))
            second = [0] * 3 + [thing] + [0] * 4
            self.each(two_rounds([0] * 32), ([([0, 1], [0, 1]), (second, [0] * 8)], [0] * 32))
            self.each(two_rounds([0] * 32), ([([0, 1], [0, 1]), ([0] * 8, second)], [0] * 32))
            self.each(two_rounds([0] * 32), ([([0, 1], [0, 1]), ([0] * 8, [0] * 8)], [0] * 31 + [thing]))

    def test_lists_of_bits_that_are_none(self):
        for thing in NO_LIST + ((0, 1), [], [0], [0, 1, 0], [0] * 8):
            self.each(one_round(MOST), ([(thing, [0, 1])], list(MOST)))
            self.each(one_round(MOST), ([([0, 1], thing)], list(MOST)))

    def test_no_round_and_three_rounds(self):
        self.refused([([], [0, 1]) for house in range(3)])
        self.refused([([], list(MOST)) for house in range(3)])
        rounds = [([0] * many, [0] * many) for many in (2, 8, 32)]
        for last in (32, 128):
            self.refused([(list(rounds), [0] * last) for house in range(3)])

    def test_houses_of_unlike_many_rounds(self):
        self.each(one_round(MOST), two_rounds([0] * 32)[0])
        self.each(two_rounds([0] * 32), one_round(MOST)[0])


class Refused(unittest.TestCase):
    def setUp(self):
        self.one, self.two = Rules(one_round(MOST)), Rules(two_rounds(just_at(19, 32)))

    def refused(self, refusal, rules, bits, liar, lies):
        with self.assertRaises(refusal):
            words_with(rules, bits, liar=liar, lies=lies)

    def tearDown(self):
        self.assertEqual(words_with(self.one, [0, 1, 1], liar=2, lies=[(0, 1)]), [0, 1])
        self.assertEqual(words_with(self.two, [1, 0, 1], liar=2, lies=[(0, 1), (1, 0)]), [1, 0])

    def test_no_rules(self):
        for rules in NO_WHOLE + (5, Rules, one_round(MOST), tuple(one_round(MOST)), [self.one]):
            self.refused(BadTable, rules, [0, 1, 1], 0, [(0, 1)])
            self.refused(BadTable, rules, None, None, None)
            with self.assertRaises(BadTable):
                broken(rules)

    def test_no_house(self):
        for liar in NO_WHOLE + (-1, 3, 10 ** 5000, -10 ** 5000):
            self.refused(BadNumber, self.one, [0, 1, 1], liar, [(0, 1)])
            self.refused(BadNumber, self.one, None, liar, None)

    def test_no_three_bits(self):
        for bits in NO_LIST + ([], [0, 1], [0, 1, 1, 0], (0, 1, 1)):
            self.refused(BadTable, self.one, bits, 0, [(0, 1)])
        for thing in NO_BIT:
            for at, liar in itertools.product(range(3), range(3)):
                bits = [0, 1, 1]
                bits[at] = thing
                self.refused(BadTable, self.one, bits, liar, [(0, 1)])

    def test_no_lies(self):
        for lies in NO_LIST + ([], [(0, 1), (0, 1)], ((0, 1),), [[0, 1]], [(0,)], [(0, 1, 0)], [0], [None], (0, 1)):
            self.refused(BadTable, self.one, [0, 1, 1], 0, lies)
        for lies in ([], [(0, 1)], [(0, 1)] * 3, [(0, 1), [0, 1]], [[0, 1], (0, 1)], [(0, 1), None]):
            self.refused(BadTable, self.two, [0, 1, 1], 0, lies)

    def test_lies_that_are_no_bits(self):
        for thing in NO_BIT:
            self.refused(BadTable, self.one, [0, 1, 1], 0, [(thing, 1)])
            self.refused(BadTable, self.one, [0, 1, 1], 0, [(0, thing)])
            self.refused(BadTable, self.two, [0, 1, 1], 0, [(0, 1), (0, thing)])

    def test_liar_and_lies_are_handed_in_by_their_names_alone(self):
        with self.assertRaises(TypeError):
            words_with(self.one, [0, 1, 1], 0, [(0, 1)])
        with self.assertRaises(TypeError):
            words_with(self.one, [0, 1, 1])


class NothingIsChanged(unittest.TestCase):
    def test_what_was_handed_in_is_as_it_was(self):
        for table, lies in ((one_round(MOST), [(0, 1)]), (two_rounds(just_at(19, 32)), [(0, 1), (1, 0)])):
            before, bits, kept = copy.deepcopy(table), [0, 1, 1], list(lies)
            rules = Rules(table)
            words_with(rules, bits, liar=1, lies=lies)
            broken(rules)
            self.assertEqual((table, bits, lies), (before, [0, 1, 1], kept))

    def test_what_is_kept_is_a_copy(self):
        table = two_rounds(just_at(19, 32))
        rules = Rules(table)
        for rounds, last in table:
            last[19] = 0
            for to_next, to_ahead in rounds:
                to_next.clear()
                to_ahead.clear()
            rounds.clear()
        table.clear()
        self.assertEqual(words_with(rules, [1, 0, 1], liar=2, lies=[(0, 1), (1, 0)]), [1, 0])

    def test_what_is_told_is_new(self):
        rules = Rules(one_round(MOST))
        words_with(rules, [0, 1, 1], liar=2, lies=[(0, 1)]).clear()
        self.assertEqual(words_with(rules, [0, 1, 1], liar=2, lies=[(0, 1)]), [0, 1])
        told = broken(rules)
        before = copy.deepcopy(told)
        told[0].clear()
        told[2].clear()
        self.assertEqual(broken(rules), before)


if __name__ == "__main__":
    unittest.main()

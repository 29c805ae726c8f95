import itertools
import random
import unittest

from liarclocks.books import Book, all_convicted, is_clash
from liarclocks.errors import BadHouses, BadNumber, BadSaying, NoHouse, NotNow
from things import NO_NUMBER, NO_ROW, NO_WHOLE

NO_HOUSES = NO_WHOLE + (0, -1, 17, 10 ** 5000, -10 ** 5000)
NO_PLACE = NO_WHOLE + (-1, 100, 10 ** 5000, -10 ** 5000)


def four():
    """House 3 lies."""
    return Book(4, liars=(3,))


def state(book, houses):
    return [(book.known(house), book.clashes(house), book.convicted(house)) for house in range(houses)]


def shown(book, house, *rows):
    for row in rows:
        book.show(house, row)


class Say(unittest.TestCase):
    def test_it_tells_the_saying(self):
        book = four()
        self.assertEqual(book.say(0, 5, 70), (0, 5, 70))
        self.assertEqual(book.say(3, 5, -70), (3, 5, -70))
        self.assertIsInstance(book.say(0, 6, 70), tuple)

    def test_places_and_numbers_at_their_bounds(self):
        book = four()
        for place, number in itertools.product((0, 99), (-1000000, 0, 1000000)):
            self.assertEqual(book.say(3, place, number), (3, place, number))

    def test_the_same_again(self):
        book = four()
        for house in (0, 3):
            for times in range(3):
                self.assertEqual(book.say(house, 5, 70), (house, 5, 70))
        book.show(1, (0, 5, 70))
        self.assertEqual(book.known(1), [(0, 5, 70)])

    def test_an_honest_house_says_one_number_for_a_place(self):
        book = four()
        book.say(0, 5, 70)
        for number in (71, -70, 0):
            with self.assertRaises(NotNow):
                book.say(0, 5, number)
            with self.assertRaises(BadSaying):
                book.show(1, (0, 5, number))
        self.assertEqual(book.say(0, 5, 70), (0, 5, 70))

    def test_0_is_a_number_like_others(self):
        book = four()
        book.say(0, 5, 0)
        with self.assertRaises(NotNow):
            book.say(0, 5, 1)

    def test_each_place_and_house_by_itself(self):
        book = four()
        self.assertEqual([book.say(house, place, 10 * house + place) for house in (0, 1) for place in (0, 1, 2)],
                         [(0, 0, 0), (0, 1, 1), (0, 2, 2), (1, 0, 10), (1, 1, 11), (1, 2, 12)])

    def test_a_liar_says_what_it_likes(self):
        book = four()
        rows = [book.say(3, 5, number) for number in (7, 8, -9, 7)]
        self.assertEqual(rows, [(3, 5, 7), (3, 5, 8), (3, 5, -9), (3, 5, 7)])

    def test_all_may_be_liars(self):
        book = Book(3, liars=[0, 1, 2])
        for house in range(3):
            book.say(house, 0, 1)
            book.say(house, 0, 2)
        self.assertEqual(all_convicted(book), [])

    def test_one_and_sixteen_houses(self):
        book = Book(1)
        self.assertEqual(book.say(0, 0, 0), (0, 0, 0))
        book = Book(16, liars=tuple(range(16)))
        self.assertEqual(book.say(15, 99, 5), (15, 99, 5))


class Show(unittest.TestCase):
    def test_it_is_seen_by_that_house_alone(self):
        book = four()
        row = book.say(0, 5, 70)
        self.assertIsNone(book.show(1, row))
        self.assertEqual([book.known(house) for house in range(4)], [[], [row], [], []])

    def test_none_has_seen_its_own_till_it_is_shown(self):
        book = four()
        row = book.say(0, 5, 70)
        self.assertEqual(book.known(0), [])
        book.show(0, row)
        self.assertEqual(book.known(0), [row])

    def test_shown_twice(self):
        book = four()
        row = book.say(0, 5, 70)
        shown(book, 1, row, row)
        self.assertEqual(book.known(1), [row])

    def test_known_is_rising(self):
        book = four()
        rows = [book.say(3, 9, 5), book.say(0, 50, -3), book.say(3, 2, 70), book.say(3, 9, -5), book.say(1, 0, 1)]
        shown(book, 2, *rows)
        self.assertEqual(book.known(2), [(0, 50, -3), (1, 0, 1), (3, 2, 70), (3, 9, -5), (3, 9, 5)])

    def test_a_liar_is_shown_too(self):
        book = four()
        book.show(3, book.say(0, 5, 70))
        self.assertEqual(book.known(3), [(0, 5, 70)])


class PassOn(unittest.TestCase):
    def test_how_many_were_new(self):
        book = four()
        rows = [book.say(0, 1, 1), book.say(1, 1, 2), book.say(3, 1, 3)]
        shown(book, 0, *rows)
        shown(book, 1, rows[1])
        self.assertEqual(book.pass_on(0, 1), 2)
        self.assertEqual(book.known(1), [(0, 1, 1), (1, 1, 2), (3, 1, 3)])
        self.assertEqual(book.known(0), [(0, 1, 1), (1, 1, 2), (3, 1, 3)])
        self.assertEqual(book.pass_on(0, 1), 0)
        self.assertEqual(book.pass_on(1, 0), 0)

    def test_nothing_seen_is_nothing_new(self):
        book = four()
        book.say(0, 1, 1)
        self.assertEqual(book.pass_on(0, 1), 0)
        self.assertEqual(book.known(1), [])

    def test_to_itself(self):
        book = four()
        book.show(0, book.say(0, 1, 1))
        self.assertEqual(book.pass_on(0, 0), 0)
        self.assertEqual(book.known(0), [(0, 1, 1)])

    def test_from_house_to_house(self):
        book = four()
        book.show(0, book.say(3, 1, 1))
        book.show(1, book.say(3, 1, 2))
        self.assertEqual([book.pass_on(0, 1), book.pass_on(1, 2), book.pass_on(2, 0)], [1, 2, 1])
        self.assertEqual(book.known(0), [(3, 1, 1), (3, 1, 2)])

    def test_a_liar_passes_on_and_is_passed_to(self):
        book = four()
        book.show(0, book.say(1, 1, 1))
        self.assertEqual([book.pass_on(0, 3), book.pass_on(3, 2)], [1, 1])
        self.assertEqual(book.known(2), [(1, 1, 1)])

    def test_what_comes_later_is_not_passed_on(self):
        book = four()
        book.pass_on(0, 1)
        book.show(0, book.say(1, 1, 1))
        self.assertEqual(book.known(1), [])

    def test_in_all_orders_each_knows_what_came_to_it(self):
        for order in itertools.permutations([(0, 1), (1, 2), (2, 0)]):
            book = four()
            known = [{book.say(3, 0, house)} for house in range(3)]
            for house in range(3):
                book.show(house, (3, 0, house))
            for house, other in order:
                self.assertEqual(book.pass_on(house, other), len(known[house] - known[other]))
                known[other] |= known[house]
            self.assertEqual([book.known(house) for house in range(3)], [sorted(rows) for rows in known])


class Clashes(unittest.TestCase):
    def test_the_lesser_number_first(self):
        book = four()
        shown(book, 0, book.say(3, 5, 70), book.say(3, 5, -70))
        self.assertEqual(book.clashes(0), [((3, 5, -70), (3, 5, 70))])
        self.assertEqual(book.convicted(0), [3])

    def test_who_has_not_seen_both_has_none(self):
        book = four()
        rows = [book.say(3, 5, 70), book.say(3, 5, -70)]
        book.show(0, rows[0])
        book.show(1, rows[1])
        self.assertEqual([book.clashes(house) for house in range(4)], [[], [], [], []])
        self.assertEqual([book.convicted(house) for house in range(4)], [[], [], [], []])
        book.pass_on(0, 1)
        self.assertEqual([book.convicted(house) for house in range(4)], [[], [3], [], []])

    def test_three_numbers_of_one_place(self):
        book = four()
        shown(book, 0, book.say(3, 5, 2), book.say(3, 5, 3), book.say(3, 5, 1))
        self.assertEqual(book.clashes(0), [((3, 5, 1), (3, 5, 2)), ((3, 5, 1), (3, 5, 3)), ((3, 5, 2), (3, 5, 3))])
        self.assertEqual(book.convicted(0), [3])

    def test_unlike_places_and_houses_do_not_clash(self):
        book = four()
        shown(book, 0, book.say(3, 5, 1), book.say(3, 6, 2), book.say(0, 5, 3), book.say(1, 5, 4))
        self.assertEqual((book.clashes(0), book.convicted(0)), ([], []))

    def test_the_same_said_again_does_not_clash(self):
        book = four()
        shown(book, 0, book.say(3, 5, 1), book.say(3, 5, 1))
        self.assertEqual(book.clashes(0), [])

    def test_rising(self):
        book = Book(5, liars=(1, 2, 4))
        for house, place, number in itertools.product((4, 1, 2), (9, 3), (5, -5)):
            book.show(0, book.say(house, place, number))
        self.assertEqual(book.clashes(0), [((1, 3, -5), (1, 3, 5)), ((1, 9, -5), (1, 9, 5)), ((2, 3, -5), (2, 3, 5)),
                                           ((2, 9, -5), (2, 9, 5)), ((4, 3, -5), (4, 3, 5)), ((4, 9, -5), (4, 9, 5))])
        self.assertEqual(book.convicted(0), [1, 2, 4])

    def test_a_liar_may_have_clashes_of_its_own(self):
        book = four()
        shown(book, 3, book.say(3, 5, 1), book.say(3, 5, 2))
        self.assertEqual(book.convicted(3), [3])

    def test_each_clash_is_one(self):
        book = four()
        shown(book, 0, *[book.say(3, place, number) for place in (4, 2) for number in (9, 7, 8)])
        clashes = book.clashes(0)
        self.assertEqual(len(clashes), 6)
        self.assertEqual(clashes, sorted(clashes))
        self.assertTrue(all(is_clash(pair) for pair in clashes))

    def test_by_chance_all_clashes_and_no_honest_house(self):
        chance = random.Random(14)
        for run in range(40):
            liars = sorted(chance.sample(range(5), chance.randrange(0, 5)))
            book, seen = Book(5, liars=liars), [set() for house in range(5)]
            for step in range(60):
                house, place = chance.randrange(5), chance.randrange(3)
                row = book.say(house, place, chance.randrange(4) if house in liars else house)
                other, third = chance.randrange(5), chance.randrange(5)
                book.show(other, row)
                seen[other].add(row)
                if chance.random() < 0.1:
                    self.assertEqual(book.pass_on(other, third), len(seen[other] - seen[third]))
                    seen[third] |= seen[other]
            for house in range(5):
                pairs = itertools.combinations(sorted(seen[house]), 2)
                clashes = [pair for pair in pairs if pair[0][:2] == pair[1][:2]]
                self.assertEqual(book.known(house), sorted(seen[house]))
                self.assertEqual(book.clashes(house), clashes)
                self.assertEqual(book.convicted(house), sorted({pair[0][0] for pair in clashes}))
                self.assertTrue(set(book.convicted(house)) <= set(liars))


class IsClash(unittest.TestCase):
    def test_clashes(self):
        for pair in (((3, 5, 1), (3, 5, 2)), ((3, 5, 2), (3, 5, 1)), ((0, 0, -1000000), (0, 0, 1000000)),
                     ((15, 99, 0), (15, 99, -1))):
            self.assertIs(is_clash(pair), True)

    def test_sayings_that_do_not_clash(self):
        for pair in (((3, 5, 1), (3, 5, 1)), ((3, 5, 1), (3, 6, 2)), ((3, 5, 1), (2, 5, 2)), ((3, 5, 1), (5, 3, 2))):
            self.assertIs(is_clash(pair), False)

    def test_no_pairs(self):
        one, two = (3, 5, 1), (3, 5, 2)
        for thing in NO_WHOLE + (5, "ab", [one, two], (one,), (one, two, two), {one: two}, {one, two}, one, two):
            self.assertIs(is_clash(thing), False)

    def test_no_sayings(self):
        for thing in NO_WHOLE + (5, "351", [3, 5, 2], (3, 5), (3, 5, 2, 0), {3: 5}, ((3, 5, 2),)):
            self.assertIs(is_clash(((3, 5, 1), thing)), False)
            self.assertIs(is_clash((thing, (3, 5, 1))), False)
            self.assertIs(is_clash((thing, thing)), False)

    def test_things_within_sayings_that_are_no_whole_numbers(self):
        for thing in NO_WHOLE:
            self.assertIs(is_clash(((3, 5, 7), (3, 5, thing))), False)
            self.assertIs(is_clash(((3, 5, thing), (3, 5, 7))), False)
            self.assertIs(is_clash(((3, thing, 7), (3, thing, 8))), False)
            self.assertIs(is_clash(((thing, 5, 7), (thing, 5, 8))), False)
        self.assertIs(is_clash(((1, 0, 7), (True, 0, 8))), False)
        self.assertIs(is_clash(((1, 0, 7), (1, False, 8))), False)


class AllConvicted(unittest.TestCase):
    def test_by_any_honest_house(self):
        book = Book(6, liars=(1, 4, 5))
        shown(book, 0, book.say(4, 0, 1), book.say(4, 0, 2))
        shown(book, 2, book.say(1, 7, 1), book.say(1, 7, 2))
        shown(book, 3, (4, 0, 1), (4, 0, 2))
        self.assertEqual(all_convicted(book), [1, 4])

    def test_what_liars_alone_have_seen_counts_for_nothing(self):
        book = Book(6, liars=(1, 4, 5))
        shown(book, 1, book.say(4, 0, 1), book.say(4, 0, 2))
        self.assertEqual(book.convicted(1), [4])
        self.assertEqual(all_convicted(book), [])
        self.assertEqual(book.pass_on(1, 0), 2)
        self.assertEqual(all_convicted(book), [4])

    def test_no_book(self):
        for thing in NO_WHOLE + (5, Book, [four()], {0: four()}):
            with self.assertRaises(BadHouses):
                all_convicted(thing)

    def test_an_empty_book(self):
        self.assertEqual(all_convicted(Book(1)), [])


class RefusedWhenMade(unittest.TestCase):
    def refused(self, refusal, *things, **named):
        with self.assertRaises(refusal):
            Book(*things, **named)

    def test_no_houses(self):
        for houses in NO_HOUSES:
            self.refused(BadNumber, houses)
            self.refused(BadNumber, houses, liars=None)

    def test_no_liars(self):
        for liars in NO_ROW + ([3], [-1], [0, 0], [1, 0], [0, 1, 2, 2], [True], [None], [[0]], [10 ** 5000], (0, None)):
            self.refused(BadHouses, 3, liars=liars)

    def test_liars_are_handed_in_by_their_name_alone(self):
        self.refused(TypeError, 4, (3,))


class Refused(unittest.TestCase):
    """House 3 lies and has said two things, which houses 0 and 1 have seen, each one."""

    def setUp(self):
        self.book = self.made()
        self.before = state(self.book, 4)

    def made(self):
        book = four()
        book.show(0, book.say(3, 1, 1))
        book.show(1, book.say(3, 1, 2))
        book.show(2, book.say(1, 1, 0))
        return book

    def refused(self, refusal, deed, *things):
        with self.assertRaises(refusal) as taken:
            deed(*things)
        self.assertEqual(state(self.book, 4), self.before)
        return taken.exception

    def test_no_house(self):
        for house in NO_WHOLE + (-1, 4, 10 ** 5000):
            for deed in (self.book.known, self.book.clashes, self.book.convicted):
                self.assertIs(self.refused(NoHouse, deed, house).house, house)
            for place, number in ((1, 1), (None, None), (100, 1)):
                self.assertIs(self.refused(NoHouse, self.book.say, house, place, number).house, house)
            for row in ((3, 1, 1), None, (3, 1, 9)):
                self.assertIs(self.refused(NoHouse, self.book.show, house, row).house, house)
            for other in (0, None, 9):
                self.assertIs(self.refused(NoHouse, self.book.pass_on, house, other).house, house)
            self.assertIs(self.refused(NoHouse, self.book.pass_on, 0, house).house, house)

    def test_no_place(self):
        for place in NO_PLACE:
            for house, number in ((0, 5), (3, 5), (0, None)):
                self.refused(BadNumber, self.book.say, house, place, number)

    def test_no_number(self):
        for number in NO_NUMBER:
            for house, place in ((0, 5), (3, 5), (1, 1)):
                self.refused(BadSaying, self.book.say, house, place, number)

    def test_what_was_never_said(self):
        for row in NO_WHOLE + (5, (3, 1), (3, 1, 1, 1), [3, 1, 1], (3, 1, 3), (3, 2, 1), (0, 1, 1), (3, 1, "1"),
                               (3, True, 1), (3, 1, True), (True, 1, 0), (1, 1, False), (3, 1, [1]), ({}, 1, 1),
                               (3, 1, None), (3, 1, 10 ** 5000), ((3, 1, 1), (3, 1, 2))):
            self.refused(BadSaying, self.book.show, 0, row)

    def test_another_number_of_an_honest_house(self):
        self.refused(NotNow, self.book.say, 1, 1, 5)

    def test_what_was_refused_was_not_said(self):
        self.refused(NotNow, self.book.say, 1, 1, 5)
        self.refused(BadSaying, self.book.show, 0, (1, 1, 5))
        self.refused(BadSaying, self.book.say, 3, 1, 1000001)
        self.refused(BadSaying, self.book.show, 0, (3, 1, 1000001))
        self.refused(BadNumber, self.book.say, 3, 100, 1)
        self.refused(BadSaying, self.book.show, 0, (3, 100, 1))
        self.refused(BadSaying, self.book.say, 0, 7, 1000001)
        self.assertEqual(self.book.say(0, 7, 1), (0, 7, 1))

    def test_behind_refusals_all_goes_on_as_without_them(self):
        other = self.made()
        self.refused(NoHouse, self.book.pass_on, 0, 4)
        self.refused(BadSaying, self.book.show, 0, (3, 1, 3))
        for book in (self.book, other):
            self.assertEqual((book.pass_on(0, 1), book.pass_on(1, 2)), (1, 2))
        self.assertEqual(state(self.book, 4), state(other, 4))
        self.assertEqual(all_convicted(self.book), [3])


class NothingIsChanged(unittest.TestCase):
    def test_liars_are_kept_as_a_copy(self):
        liars = [3]
        book = Book(4, liars=liars)
        book.say(3, 1, 1)
        self.assertEqual(liars, [3])
        liars[0] = 0
        book.say(3, 1, 2)
        book.say(0, 1, 1)
        with self.assertRaises(NotNow):
            book.say(0, 1, 2)

    def test_what_is_told_is_new(self):
        book = four()
        shown(book, 0, book.say(3, 1, 1), book.say(3, 1, 2))
        book.known(0).clear()
        book.clashes(0).clear()
        book.convicted(0).append(1)
        all_convicted(book).clear()
        self.assertEqual(book.known(0), [(3, 1, 1), (3, 1, 2)])
        self.assertEqual(book.clashes(0), [((3, 1, 1), (3, 1, 2))])
        self.assertEqual((book.convicted(0), all_convicted(book)), ([3], [3]))

    def test_what_was_told_stays(self):
        book = four()
        told = (book.known(0), book.clashes(0), book.convicted(0))
        shown(book, 0, book.say(3, 1, 1), book.say(3, 1, 2))
        self.assertEqual(told, ([], [], []))

    def test_two_books_are_apart(self):
        book, other = four(), four()
        shown(book, 0, book.say(3, 1, 1))
        self.assertEqual(other.known(0), [])
        with self.assertRaises(BadSaying):
            other.show(0, (3, 1, 1))

    def test_what_is_asked_changes_nothing(self):
        book = four()
        shown(book, 0, book.say(3, 1, 1), book.say(3, 1, 2))
        before = state(book, 4)
        all_convicted(book)
        is_clash(book.clashes(0)[0])
        self.assertEqual(state(book, 4), before)


if __name__ == "__main__":
    unittest.main()

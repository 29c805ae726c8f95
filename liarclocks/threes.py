"""Rules of three houses of which one lies, and how they break."""

from liarclocks.checks import check_within, is_pair, is_within
from liarclocks.errors import BadTable

# By how many bits are known, how long a list is that tells a bit for each case.
CASES = {1: 2, 3: 8, 5: 32}
MOST_ROUNDS = 2


def is_bit(thing):
    """Whether a thing is a bit."""
    return is_within(thing, 0, 1)


def is_bits(thing, many):
    """Whether a thing is a list of so many bits."""
    return isinstance(thing, list) and len(thing) == many and all([is_bit(bit) for bit in thing])


def is_writing(thing, many):
    """Whether a thing tells for so many cases what is written to the next house, and to the house ahead."""
    return is_pair(thing) and is_bits(thing[0], many) and is_bits(thing[1], many)


def is_rule(thing, rounds):
    """Whether a thing is what one house goes by in so many rounds."""
    if not is_pair(thing) or not isinstance(thing[0], list) or len(thing[0]) != rounds:
        return False
    # In each round two bits more are known.
    writes = all([is_writing(pair, CASES[1 + 2 * at]) for at, pair in enumerate(thing[0])])
    return writes and is_bits(thing[1], CASES[1 + 2 * rounds])


def is_table(thing):
    """Whether a thing is the rules of three houses, all for as many rounds."""
    if not isinstance(thing, list) or len(thing) != 3:
        return False
    return any([all([is_rule(rule, rounds) for rule in thing]) for rounds in range(1, MOST_ROUNDS + 1)])


def is_lies(thing, rounds):
    """Whether a thing is what a liar writes in so many rounds."""
    if not isinstance(thing, list) or len(thing) != rounds:
        return False
    return all([is_pair(pair) and is_bit(pair[0]) and is_bit(pair[1]) for pair in thing])


def number_of(bits):
    """What is known, numbered as figures of two, the first bit the greatest."""
    number = 0
    for bit in bits:
        number = 2 * number + bit
    return number


def copy_of(rule):
    """A rule of the same bits in new lists."""
    writings, last = rule
    return ([(list(to_next), list(to_ahead)) for to_next, to_ahead in writings], list(last))


class Rules:
    """What each of three houses writes, and its last word, by what it knows."""

    def __init__(self, houses):
        if not is_table(houses):
            raise BadTable("not the rules of three houses")
        self.table = [copy_of(rule) for rule in houses]

    def many_rounds(self):
        """How many rounds there are, the same for all houses."""
        return len(self.table[0][0])

    def writing(self, house, at, known):
        """What a house writes in a round to the next house, and to the house ahead."""
        to_next, to_ahead = self.table[house][0][at]
        number = number_of(known)
        return (to_next[number], to_ahead[number])

    def last_word(self, house, known):
        """The last word of a house."""
        return self.table[house][1][number_of(known)]


def check_rules(rules):
    """Refuse what are no rules."""
    if not isinstance(rules, Rules):
        raise BadTable("not rules")


def last_words(rules, bits, liar, lies):
    """The last words of both honest houses, of what needs no look."""
    known = [[bit] for bit in bits]
    for at, lie in enumerate(lies):
        written = [lie if house == liar else rules.writing(house, at, known[house]) for house in range(3)]
        # The house ahead wrote to this one as its next, the next one to this one as ahead of it.
        known = [known[house] + [written[(house + 2) % 3][0], written[(house + 1) % 3][1]] for house in range(3)]
    return [rules.last_word(house, known[house]) for house in range(3) if house != liar]


def words_with(rules, bits, *, liar, lies):
    """The last words of both honest houses, the lesser one first, when a liar writes its lies."""
    check_rules(rules)
    check_within(liar, 0, 2)
    if not is_bits(bits, 3):
        raise BadTable("not a list of three bits")
    if not is_lies(lies, rules.many_rounds()):
        raise BadTable("not a pair of bits for each round")
    return last_words(rules, bits, liar, lies)


def do_break(bits, liar, words):
    """Whether honest houses with these bits break by their last words."""
    first, second = [bits[house] for house in range(3) if house != liar]
    if words[0] != words[1]:
        return True
    return first == second and words[0] != first


def all_bits():
    """All bits that three houses may have."""
    return [[one, two, three] for one in range(2) for two in range(2) for three in range(2)]


def all_lies(rounds):
    """All that a liar may write in so many rounds."""
    found = [[]]
    for at in range(rounds):
        found = [lies + [(to_next, to_ahead)] for lies in found for to_next in range(2) for to_ahead in range(2)]
    return found


def broken(rules):
    """Bits, a liar and lies with which the honest houses break."""
    check_rules(rules)
    cases = [(bits, liar) for bits in all_bits() for liar in range(3)]
    for bits, liar in cases:
        for lies in all_lies(rules.many_rounds()):
            if do_break(bits, liar, last_words(rules, bits, liar, lies)):
                return (bits, liar, lies)
    # No three houses keep one word whatever one of them writes, so the walk ends above.
    return None

"""Letters that come in any order, and rounds that all honest houses strike though some lie."""

from liarclocks.checks import check_few, check_honest, check_house, check_houses, check_some_houses, check_within
from liarclocks.checks import is_within
from liarclocks.errors import BadHouses, NoHouse, NoLetter, NotNow

LAST_ROUND = 99


def is_round(thing):
    """Whether a thing is a round."""
    return is_within(thing, 1, LAST_ROUND)


def check_round(count):
    """Refuse what is no round."""
    check_within(count, 1, LAST_ROUND)


class Letter:
    """A letter on its way."""

    def __init__(self, sender, house, what):
        self.sender = sender
        self.house = house
        self.what = what
        # The beat at which it comes, where letters take beats.
        self.due = None

    def row(self):
        """The letter as it is told: from, to, what."""
        return (self.sender, self.house, self.what)


class Post:
    """Houses that write to all honest ones, while liars write to these what they like."""

    def __init__(self, houses, *, few, liars):
        check_houses(houses)
        check_few(few)
        if houses <= 3 * few:
            raise BadHouses("no more than three times few")
        check_some_houses(liars, houses, few)
        self.houses = houses
        self.few = few
        self.liars = list(liars)
        self.on_way = []
        self.got = {}

    def honest(self):
        """The honest houses, rising."""
        return [house for house in range(self.houses) if house not in self.liars]

    def letters(self):
        """All letters on their way, the oldest first."""
        return [letter.row() for letter in self.on_way]

    def check_is_honest(self, house):
        """Refuse what is no honest house."""
        check_honest(house, self.houses, self.liars)

    def check_is_liar(self, liar):
        """Refuse what is no liar."""
        check_house(liar, self.houses)
        if liar not in self.liars:
            raise NoHouse(liar)

    def write(self, sender, house, what):
        """Send a letter on its way."""
        self.on_way.append(Letter(sender, house, what))

    def write_to_all(self, sender, what):
        """Send a letter on its way to each honest house, the sender too."""
        for house in self.honest():
            self.write(sender, house, what)

    def take(self, at):
        """Take the letter at a place off its way, and count it where it came."""
        if not is_within(at, 0, len(self.on_way) - 1):
            raise NoLetter("no letter is on its way at this place")
        letter = self.on_way.pop(at)
        # By senders, so that letters of one house count once.
        senders = self.got.setdefault((letter.house, letter.what), {})
        senders[letter.sender] = True
        return letter

    def many_got(self, house, what):
        """Of how many houses such letters have come to a house."""
        return len(self.got.get((house, what), {}))


class Pulse(Post):
    """Houses that strike rounds together, each round by itself."""

    def __init__(self, houses, *, few, liars=()):
        Post.__init__(self, houses, few=few, liars=liars)
        self.written = {}
        self.struck = {}

    def ready(self, house, count):
        """An honest house whose clock says that a round is due writes it to all."""
        self.check_is_honest(house)
        check_round(count)
        if self.has_said(house, count):
            raise NotNow("this house has written this round")
        self.write_round(house, count)

    def lie(self, liar, house, count):
        """A liar writes a round to an honest house."""
        self.check_is_liar(liar)
        self.check_is_honest(house)
        check_round(count)
        self.write(liar, house, count)

    def come(self, at):
        """Let the letter at a place come, with all that it brings about."""
        letter = self.take(at)
        self.look(letter.house, letter.what)
        return letter.row()

    def look(self, house, count):
        """What an honest house does when a letter for a round has come."""
        many = self.many_got(house, count)
        if many > self.few and not self.has_said(house, count):
            self.write_round(house, count)
        if many > 2 * self.few and (house, count) not in self.struck:
            self.strike(house, count)

    def write_round(self, house, count):
        """Write a round to all, and know that it is written."""
        self.written[(house, count)] = True
        self.write_to_all(house, count)

    def strike(self, house, count):
        """Strike a round."""
        self.struck[(house, count)] = True

    def has_said(self, house, count):
        """Whether an honest house has written a round."""
        self.check_is_honest(house)
        return is_round(count) and (house, count) in self.written

    def strikes(self, house):
        """The rounds that an honest house struck, in turn."""
        self.check_is_honest(house)
        return [count for striker, count in self.struck if striker == house]

    def all_strikes(self):
        """All strikes, in turn: pairs of a house and a round."""
        return list(self.struck)

"""A word of one house, taken by all honest houses or by none, though some lie."""

from liarclocks.checks import check_house, check_within
from liarclocks.errors import BadLies, NotNow
from liarclocks.pulses import Post

WORDS = ("first", "echo", "ready")
LAST_WORD_NUMBER = 999


def check_word(word):
    """Refuse what is no word of the three."""
    if not isinstance(word, str) or word not in WORDS:
        raise BadLies("not one of the three words")


def check_word_number(number):
    """Refuse what is no number of a word."""
    check_within(number, 0, LAST_WORD_NUMBER)


class Echo(Post):
    """Houses to which a sender writes a number, and which echo it till all take it."""

    def __init__(self, houses, *, few, sender=0, liars=()):
        Post.__init__(self, houses, few=few, liars=liars)
        check_house(sender, houses)
        self.sender = sender
        # By honest houses and words: who has written such a word, whatever the number.
        self.written = {}
        self.taken = {}

    def send(self, number):
        """The sender, if it is honest, writes its number to all."""
        check_word_number(number)
        if self.sender in self.liars:
            raise NotNow("the sender is a liar")
        if self.has_written(self.sender, "first"):
            raise NotNow("the sender has sent")
        self.write_word(self.sender, "first", number)

    def lie(self, liar, house, word, number):
        """A liar writes a word and a number to an honest house."""
        self.check_is_liar(liar)
        self.check_is_honest(house)
        check_word(word)
        check_word_number(number)
        self.write(liar, house, (word, number))

    def come(self, at):
        """Let the letter at a place come, with all that it brings about."""
        letter = self.take(at)
        word, number = letter.what
        if word == "first":
            self.look_at_first(letter.sender, letter.house, number)
        if word == "echo":
            self.look_at_echoes(letter.house, number)
        if word == "ready":
            self.look_at_readies(letter.house, number)
        return letter.row()

    def look_at_first(self, sender, house, number):
        """What an honest house does when a "first" has come to it."""
        if sender == self.sender:
            self.write_once(house, "echo", number)

    def look_at_echoes(self, house, number):
        """What an honest house does when an echo of a number has come to it."""
        # Both sides twice, so that the half needs no rounding.
        if 2 * self.many_got(house, ("echo", number)) > self.houses + self.few:
            self.write_once(house, "ready", number)

    def look_at_readies(self, house, number):
        """What an honest house does when a "ready" of a number has come to it."""
        many = self.many_got(house, ("ready", number))
        if many > self.few:
            self.write_once(house, "ready", number)
        if many > 2 * self.few:
            self.taken.setdefault(house, number)

    def has_written(self, house, word):
        """Whether an honest house has written such a word."""
        return (house, word) in self.written

    def write_word(self, house, word, number):
        """Write a word and a number to all, and know that such a word is written."""
        self.written[(house, word)] = True
        self.write_to_all(house, (word, number))

    def write_once(self, house, word, number):
        """Write a word and a number to all, unless the house has written such a word."""
        if not self.has_written(house, word):
            self.write_word(house, word, number)

    def took(self, house):
        """The number that an honest house has taken, None till then."""
        self.check_is_honest(house)
        return self.taken.get(house)

    def stage(self, house):
        """How far an honest house is: 0 at first, 1 it has echoed, 2 it was ready, 3 it has taken a number."""
        self.check_is_honest(house)
        if house in self.taken:
            return 3
        if self.has_written(house, "ready"):
            return 2
        return 1 if self.has_written(house, "echo") else 0

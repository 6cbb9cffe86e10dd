"""Lines of words that are taken one after the other, until one is not possible; and what single words write."""

from firstfault.errors import InvalidText
from firstfault.kinds import is_name, is_state_set

DIGITS = "0123456789"
MOST_DIGITS = 60


class WordLine:
    """The words of a line, of which those at the front are taken.

    line and field are where the first word stands; the place of one that is not possible is counted from there.
    """

    def __init__(self, text, line, field):
        self._words = text.split(" ")
        self._taken = 0
        self._line = line
        self._field = field

    def is_over(self):
        """Whether all words are taken."""
        return self._taken == len(self._words)

    def upcoming(self):
        """Return the next word. Behind the last one this is an empty one, as it is not possible either."""
        return "" if self.is_over() else self._words[self._taken]

    def refuse(self):
        """Raise InvalidText for the next word, or for one that is missing."""
        raise InvalidText(self._line, self._field + self._taken)

    def take_word(self):
        """Take the next word, which is possible, and return it."""
        word = self.upcoming()
        self._taken = self._taken + 1
        return word

    def take_name(self):
        """Take the next word, which is to be a name, and return it."""
        if not is_name(self.upcoming()):
            self.refuse()
        return self.take_word()

    def take_integer(self):
        """Take the next word, which is to write an integer, and return this."""
        if not is_integer_word(self.upcoming()):
            self.refuse()
        return int(self.take_word())

    def take_number(self, least):
        """Take the next word, which is to write a number that is at least as great as told, and return this."""
        word = self.upcoming()
        if not is_number_word(word) or int(word) < least:
            self.refuse()
        return int(self.take_word())

    def take_key(self):
        """Take the next word, which is to write a key, and return this."""
        key = key_in(self.upcoming())
        if key is None:
            self.refuse()
        self.take_word()
        return key

    def take_states(self):
        """Take the next word, which is to write a set of tuples of integers, and return this."""
        states = states_in(self.upcoming())
        if states is None:
            self.refuse()
        self.take_word()
        return states

    def refuse_rest(self):
        """Raise InvalidText if a word is left: it is one too many."""
        if not self.is_over():
            self.refuse()


def is_number_word(word):
    """Whether a word writes a number with as many digits as can be read."""
    if not 1 <= len(word) <= MOST_DIGITS or not all([sign in DIGITS for sign in word]):
        return False
    return word == "0" or word[0] != "0"


def is_integer_word(word):
    """Whether a word writes an integer with as many digits as can be read."""
    if word.startswith("-"):
        return word != "-0" and is_number_word(word[1:])
    return is_number_word(word)


def key_in(word):
    """Return the key that a word writes, None if it writes none."""
    part, _, path = word.partition(":")
    if part != "-" and not is_name(part):
        return None
    numbers = path.split(".")
    if not all([is_number_word(number) for number in numbers]):
        return None
    name = None if part == "-" else part
    return name, tuple([int(number) for number in numbers])


def integers_in(word):
    """Return the tuple of the integers that a word writes with commas between, None if it writes none."""
    numbers = word.split(",")
    if not all([is_integer_word(number) for number in numbers]):
        return None
    return tuple([int(number) for number in numbers])


def states_in(word):
    """Return the set of tuples of integers that a word writes, None if it writes none."""
    if word == "-":
        return ()
    states = tuple([integers_in(row) for row in word.split(";")])
    return states if is_state_set(states) else None

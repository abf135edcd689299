"""Ways from a word to a word as objects."""

from clashborn.fewest import fewest_turns
from clashborn.kinds import is_house
from clashborn.turnwords import turn_words
from clashborn.usable import need, need_other, need_word


class Route:
    """A way from word to other in a house."""

    def __init__(self, house, word, other):
        need(is_house(house), "house")
        need_word(house[0], word)
        need_other(house[0], other)
        self._fewest = fewest_turns(house, word, other)
        self._house = house
        self._word = word
        self._other = other

    def __eq__(self, other):
        return (isinstance(other, Route) and self._house == other._house and self._word == other._word
                and self._other == other._other)

    def fewest(self):
        """The fewest turns."""
        return self._fewest

    def words(self):
        """Any tuple of made words that leads from word to other in the fewest turns."""
        return turn_words(self._house, self._word, self._other)

    def back(self):
        """The Route from other to word."""
        return Route(self._house, self._other, self._word)

    def ends_in(self):
        """The pair (word, other)."""
        return (self._word, self._other)

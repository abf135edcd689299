"""Two houses side by side as objects."""

from clashborn.comparing import first_unmade, is_within, makes_same, need_like_house
from clashborn.kinds import is_house
from clashborn.leasthouses import fewest_told
from clashborn.usable import need


class Sides:
    """Two houses on as many places."""

    def __init__(self, house, other):
        need(is_house(house), "house")
        need_like_house(house, other)
        self._house = house
        self._other = other

    def __eq__(self, other):
        return isinstance(other, Sides) and self._house == other._house and self._other == other._other

    def within(self):
        """The pair: whether the other house makes all words of the first one, and the other way round."""
        return (is_within(self._house, self._other), is_within(self._other, self._house))

    def same(self):
        """True if both houses have the same made words, otherwise False."""
        return makes_same(self._house, self._other)

    def apart_at(self):
        """The least told number of the first house whose word the other one does not make, or None."""
        return first_unmade(self._house, self._other)

    def fewest(self):
        """The pair of the fewest told words that make the same words as either house."""
        return (fewest_told(self._house), fewest_told(self._other))

    def turned_about(self):
        """The Sides of both houses in turn."""
        return Sides(self._other, self._house)

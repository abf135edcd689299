"""Books of made words."""

from clashborn.kinds import is_house
from clashborn.madenumbers import made_at, next_made, number_of
from clashborn.piececounts import made_count
from clashborn.startcounts import made_with
from clashborn.usable import need


class Book:
    """A book of the made words of a house."""

    def __init__(self, house):
        need(is_house(house), "house")
        self._house = house

    def __eq__(self, other):
        return isinstance(other, Book) and self._house == other._house

    def total(self):
        """How many made words there are."""
        return made_count(self._house)

    def at(self, number):
        """The made word with this number."""
        return made_at(self._house, number)

    def number(self, word):
        """The number of the made word."""
        return number_of(self._house, word)

    def after(self, word):
        """The least made word greater than word, or None."""
        return next_made(self._house, word)

    def starting(self, start):
        """How many made words begin with start."""
        return made_with(self._house, start)

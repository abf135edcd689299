"""Words of a house as objects."""

from clashborn.comings import verdict_of
from clashborn.frames import Frame
from clashborn.kinds import is_house
from clashborn.refusals import refusal_of
from clashborn.tiework import met_by
from clashborn.turning import turn_once
from clashborn.usable import need, need_other, need_told, need_word


class Source:
    """A word of a house."""

    def __init__(self, house, word):
        need(is_house(house), "house")
        need_word(house[0], word)
        self._house = house
        self._word = word

    def __eq__(self, other):
        return isinstance(other, Source) and self._house == other._house and self._word == other._word

    def comes(self, other):
        """True if other comes of the word, otherwise False."""
        need_other(self._house[0], other)
        return verdict_of(Frame(self._house), self._word, other)[0] == "lot"

    def refusal(self, other):
        """None if other comes of the word, otherwise any refusal of other, from the word."""
        return refusal_of(self._house, self._word, other)

    def meets(self):
        """The ascending tuple of the numbers of the pieces that the word meets."""
        return met_by(self._house, self._word)

    def turned(self, told):
        """A new Source of the house and of the word turned by the told word told."""
        need_told(self._house, told)
        return Source(self._house, turn_once(self._word, self._house[1][told]))

    def held(self):
        """The pair (house, word)."""
        return (self._house, self._word)

    def same_class(self, other):
        """True if the word of other, a Source of the same house, comes of this word, otherwise False."""
        need(isinstance(other, Source) and other._house == self._house, "other")
        return verdict_of(Frame(self._house), self._word, other._word)[0] == "lot"

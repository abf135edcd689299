"""Watches over two rivals as objects."""

from clashborn.comings import comes_of
from clashborn.fixedlists import fixed_checks, fixed_count
from clashborn.kinds import is_house, is_wide_word
from clashborn.planning import plan_of
from clashborn.rivalries import need_rivals
from clashborn.usable import need


class Watch:
    """A house, a word and a rival of it."""

    def __init__(self, house, word, other):
        need(is_house(house), "house")
        need_rivals(house, word, other)
        self._house = house
        self._word = word
        self._other = other

    def __eq__(self, other):
        return (isinstance(other, Watch) and self._house == other._house and self._word == other._word
                and self._other == other._other)

    def least(self):
        """The least length of a tuple of checks that do not confuse the rivals."""
        return fixed_count(self._house, self._word, self._other)

    def checks(self):
        """Any tuple of so many checks that do not confuse the rivals."""
        return fixed_checks(self._house, self._word, self._other)

    def plan(self):
        """Any plan for the rivals' piece that parts them."""
        return plan_of(self._house, self._word, self._other)

    def judged(self, seen):
        """"word" if seen comes of word, "other" if it comes of other; NotUsable for any other value."""
        need(is_wide_word(self._house[0], seen), "seen")
        if comes_of(self._house, self._word, seen):
            return "word"
        need(comes_of(self._house, self._other, seen), "seen")
        return "other"

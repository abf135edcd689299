"""Houses as objects."""

from clashborn.errors import NotUsable
from clashborn.housechanges import beside_house, house_of, with_word, without_word
from clashborn.kinds import is_integer
from clashborn.letters import plain_sum
from clashborn.usable import need, need_lot


class House:
    """An object with a house."""

    def __init__(self, places, *words):
        need(is_integer(places) and places >= 1, "places")
        self._house = house_of(places, *words)

    def __eq__(self, other):
        return isinstance(other, House) and self._house == other._house

    def __len__(self):
        return len(self._house[1])

    def __add__(self, other):
        if not isinstance(other, House):
            raise NotUsable("other", -1)
        places, words = beside_house(self._house, other._house)
        return House(places, *words)

    def told(self):
        """The pair (places, words)."""
        return self._house

    def with_word(self, word):
        """The House with a further word told last."""
        places, words = with_word(self._house, word)
        return House(places, *words)

    def without(self, told):
        """The House without the word told so."""
        places, words = without_word(self._house, told)
        return House(places, *words)

    def sum_at(self, lot):
        """The sum of the lot."""
        need_lot(self._house, lot)
        places, words = self._house
        return plain_sum(places, [words[k] for k in lot])

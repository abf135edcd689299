"""Told words that a house makes without telling them."""

from clashborn.bits import code_of
from clashborn.frames import Frame
from clashborn.housechanges import without_word
from clashborn.making import maker_in
from clashborn.usable import need_told


def is_needless(house, told):
    """True if the house makes the same words without the word told so, otherwise False."""
    need_told(house, told)
    return maker_in(Frame(without_word(house, told)), code_of(house[1][told])) is not None


def stripped(house):
    """The house that is left when needless words are left out, the greatest told number first."""
    left = house
    for told in list(range(len(house[1])))[::-1]:
        if is_needless(left, told):
            left = without_word(left, told)
    return left

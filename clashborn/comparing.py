"""What two houses make, compared."""

from clashborn.bits import code_of
from clashborn.frames import Frame
from clashborn.kinds import is_house
from clashborn.making import maker_in
from clashborn.usable import need


def need_like_house(house, other):
    """The parameter other must be a house on as many places as house."""
    need(is_house(other) and other[0] == house[0], "other")


def unmade_told(house, frame):
    """The least told number of house whose word is not made in the frame, or None."""
    for told, word in enumerate(house[1]):
        if maker_in(frame, code_of(word)) is None:
            return told
    return None


def is_within(house, other):
    """True if other makes each word that house makes, otherwise False."""
    return first_unmade(house, other) is None


def makes_same(house, other):
    """True if both houses have the same made words, otherwise False."""
    return is_within(house, other) and is_within(other, house)


def first_unmade(house, other):
    """The least told number of house whose word other does not make, or None."""
    need_like_house(house, other)
    # If other makes all told words, it makes their sums that clash as well, and so all made words.
    return unmade_told(house, Frame(other))

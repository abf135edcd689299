"""Letters of the made words, place by place."""

from math import gcd

from clashborn.bits import code_of
from clashborn.frames import Frame
from clashborn.kinds import is_below
from clashborn.piececounts import made_size
from clashborn.startcounts import made_showing
from clashborn.usable import need


def count_lettered(frame, letter, place):
    """How many made words have the letter at the place."""
    below = 2 * (frame.places - place - 1)
    return made_showing(frame, 3 << below, code_of(letter) << below)


def letter_table(house, place):
    """How many made words have the letter I, X, Y, Z at the place."""
    need(is_below(house[0], place), "place")
    frame = Frame(house)
    return tuple([count_lettered(frame, letter, place) for letter in "IXYZ"])


def width_mean(house):
    """The mean of width_of over all made words, as a pair (top, bottom) without a common divisor."""
    frame = Frame(house)
    many = made_size(frame)
    if many == 0:
        return (0, 1)
    widths = sum([many - count_lettered(frame, "I", place) for place in range(frame.places)])
    common = gcd(widths, many)
    return (widths // common, many // common)

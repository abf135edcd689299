"""Which told words clash, the pieces they hang together in, and the pieces that a word meets."""

from clashborn.bits import code_of, lot_of
from clashborn.frames import Frame
from clashborn.usable import need_told, need_word


def ties_of(house):
    """For each told word the lot of the told words that clash with it."""
    return tuple([lot_of(mask) for mask in Frame(house).ties])


def pieces_of(house):
    """The tuple of the pieces, each as the lot of its told words."""
    return Frame(house).pieces


def piece_at(house, told):
    """The number of the piece of this told word."""
    need_told(house, told)
    return [k for k, lot in enumerate(Frame(house).pieces) if told in lot][0]


def met_by(house, word):
    """The ascending tuple of the numbers of the pieces that the word meets."""
    need_word(house[0], word)
    frame = Frame(house)
    return tuple(frame.met(frame.crossing(code_of(word))))

"""Pieces that a word joins as a further word."""

from clashborn.bits import lot_of
from clashborn.frames import Frame
from clashborn.housechanges import with_word
from clashborn.meetings import Visit
from clashborn.pairings import pairing_of
from clashborn.tiework import piece_at
from clashborn.usable import need_word


def joined_mask(frame, words):
    """The mask of all told words of all pieces that at least one of the words meets."""
    mask = 0
    for word in words:
        mask = mask | Visit(frame, word).met_mask
    return mask


def joined_pieces(house, word):
    """The lot of all told words of all pieces that word meets."""
    need_word(house[0], word)
    return lot_of(joined_mask(Frame(house), (word,)))


def pairing_with(house, word):
    """Any pairing of the piece in which word lies as a further word; Unlike if it is strict or loose."""
    wider = with_word(house, word)
    return pairing_of(wider, piece_at(wider, len(house[1])))

"""Kinds of pieces."""

from clashborn.bits import lot_of
from clashborn.frames import Frame
from clashborn.pairwalks import kind_at, odd_mask
from clashborn.usable import need_piece


def kind_of(house, piece):
    """The kind of the piece."""
    frame = Frame(house)
    need_piece(frame, piece)
    return kind_at(frame, piece)


def kinds_of(house):
    """The kinds of all pieces, in sequence."""
    frame = Frame(house)
    return tuple([kind_at(frame, piece) for piece in range(len(frame.pieces))])


def odd_relation(house, piece):
    """Any odd relation within the piece, or None."""
    frame = Frame(house)
    need_piece(frame, piece)
    mask = odd_mask(frame, piece)
    if mask is None:
        return None
    return lot_of(mask)

"""Pieces that share sums."""

from clashborn.bits import span_of
from clashborn.frames import Frame
from clashborn.kinds import is_lot
from clashborn.usable import need


def dimension_by(codes):
    """The dimension of the words of these codes."""
    return len(span_of(codes)[1])


def first_sharing(frame, pieces):
    """The first of these pieces at which they share, or None."""
    before = []
    for piece in pieces:
        own = [frame.codes[told] for told in frame.pieces[piece]]
        if dimension_by(before + own) < dimension_by(before) + dimension_by(own):
            return piece
        before = before + own
    return None


def share_at(house, pieces):
    """The first of these pieces at which they share; None if they are clear."""
    frame = Frame(house)
    need(is_lot(len(frame.pieces), pieces), "pieces")
    return first_sharing(frame, pieces)

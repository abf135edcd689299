"""Pairings of pieces."""

from clashborn.errors import Unlike
from clashborn.frames import Frame
from clashborn.kinds import is_number_pair
from clashborn.pairwalks import unpaired_kind, walk_of
from clashborn.pointtrees import count_points, ends_by
from clashborn.usable import need, need_lot, need_piece


def has_pairs_shape(many, thing):
    """True if thing is a tuple of so many pairs whose points are all numbers below some number."""
    if not isinstance(thing, tuple) or len(thing) != many or not all([is_number_pair(pair) for pair in thing]):
        return False
    return max([pair[1] for pair in thing]) < count_points(thing)


def share_one(one, other):
    """True if two pairs have just one number in common."""
    return len([point for point in one if point in other]) == 1


def pairs_piece(frame, piece, thing):
    """True if thing is a pairing of the piece."""
    lot = frame.pieces[piece]
    if not has_pairs_shape(len(lot), thing):
        return False
    for k, told in enumerate(lot):
        ties = frame.ties[told]
        if not all([share_one(thing[k], thing[j]) == ((ties >> lot[j]) & 1 == 1) for j in range(k)]):
            return False
    return True


def need_pairs(frame, piece, pairs):
    """The piece must be a lone or paired one of the frame's house, and pairs a pairing of it."""
    need_piece(frame, piece)
    need(walk_of(frame, piece).breaker is None, "piece")
    need(pairs_piece(frame, piece, pairs), "pairs")


def ends_within(frame, piece, pairs, mask):
    """The ends of the lot of this mask, by the pairing of the piece."""
    return ends_by(pairs, [k for k, told in enumerate(frame.pieces[piece]) if (mask >> told) & 1])


def is_pairing(house, piece, thing):
    """True if thing is a pairing of the piece, otherwise False."""
    frame = Frame(house)
    need_piece(frame, piece)
    return pairs_piece(frame, piece, thing)


def points_in(pairs):
    """How many points the pairs have."""
    return count_points(pairs)


def ends_of(house, piece, pairs, lot):
    """The ends of the lot, by the pairing of the piece."""
    frame = Frame(house)
    need_pairs(frame, piece, pairs)
    need_lot(house, lot)
    return ends_by(pairs, [k for k, told in enumerate(frame.pieces[piece]) if told in lot])


def pairing_of(house, piece):
    """Any pairing of the piece; Unlike if it is strict or loose."""
    frame = Frame(house)
    need_piece(frame, piece)
    pairs = walk_of(frame, piece).pairing()
    if pairs is None:
        raise Unlike(unpaired_kind(frame, piece))
    return pairs

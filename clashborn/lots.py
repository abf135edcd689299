"""Lots of told words: their sums, whether they are odd, their parts, and lots added."""

from clashborn.bits import lot_of, mask_of
from clashborn.frames import Frame
from clashborn.kinds import is_rising
from clashborn.letters import plain_sum
from clashborn.pointtrees import lots_merged
from clashborn.usable import need, need_lot, need_piece


def lot_sum(house, lot):
    """The sum of the lot; the blank word for ()."""
    need_lot(house, lot)
    return plain_sum(house[0], [house[1][k] for k in lot])


def is_odd(house, lot):
    """True if the lot is odd, otherwise False."""
    need_lot(house, lot)
    return Frame(house).oddness(mask_of(lot)) == 1


def part_of(house, lot, piece):
    """The part of the lot in the piece."""
    need_lot(house, lot)
    frame = Frame(house)
    need_piece(frame, piece)
    return lot_of(mask_of(lot) & frame.piece_masks[piece])


def lots_added(one, other):
    """The numbers that are in just one of two lots of any things."""
    need(is_rising(other), "other")
    return tuple(lots_merged(one, other))

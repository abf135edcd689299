"""Lots that are let by a word, piece by piece."""

from clashborn.bits import mask_of, parity
from clashborn.frames import Frame
from clashborn.kinds import is_number
from clashborn.meetings import Visit
from clashborn.pairings import ends_within
from clashborn.pointtrees import count_points, lots_merged
from clashborn.usable import need, need_lot, need_word


def swept_side(visit, mask, piece):
    """0 if a swept piece lets the lot of this mask, otherwise 1."""
    part = mask & visit.frame.piece_masks[piece]
    return visit.frame.oddness(part) ^ parity(part & visit.clash_mask)


def side_at(visit, mask, piece):
    """As side_of, for a met piece and the mask of a lot of told words of met pieces."""
    meeting, pairs, coins = visit.manner(piece)
    if meeting == "lone":
        return 0
    if meeting == "swept":
        return swept_side(visit, mask, piece)
    after = len(lots_merged(coins, ends_within(visit.frame, piece, pairs, mask)))
    if after == len(coins):
        return 0
    if after == count_points(pairs) - len(coins):
        return 1
    return None


def shift_at(visit, mask, piece):
    """As shift_of, for a met piece and the mask of a relation of told words of met pieces."""
    if not visit.is_bound(piece):
        return 0
    meeting, pairs, _ = visit.manner(piece)
    if meeting == "swept":
        return swept_side(visit, mask, piece)
    # The ends of a relation's part are none or all points.
    return 0 if ends_within(visit.frame, piece, pairs, mask) == () else 1


def visit_with(house, word, lot):
    """The visit of the word, when word and lot are as stated."""
    need_word(house[0], word)
    need_lot(house, lot)
    visit = Visit(Frame(house), word)
    need(mask_of(lot) & visit.met_mask == mask_of(lot), "lot")
    return visit


def need_met(visit, piece):
    """The parameter piece must be the number of a piece that the word meets."""
    need(is_number(piece) and piece in visit.met_pieces, "piece")


def is_let(house, word, lot):
    """True if the lot is let by the word, otherwise False."""
    visit = visit_with(house, word, lot)
    return all([side_at(visit, mask_of(lot), piece) == 0 for piece in visit.met_pieces])


def side_of(house, word, lot, piece):
    """0 if the lot is let in the piece, 1 if it is on the other side there, None if on neither."""
    visit = visit_with(house, word, lot)
    need_met(visit, piece)
    return side_at(visit, mask_of(lot), piece)


def shift_of(house, word, lot, piece):
    """1 if adding the lot, a relation, changes the side in the piece, otherwise 0."""
    visit = visit_with(house, word, lot)
    need(visit.frame.sum_code(mask_of(lot)) == 0, "lot")
    need_met(visit, piece)
    return shift_at(visit, mask_of(lot), piece)

"""Coins that a word has on a piece, by a pairing of it."""

from clashborn.bits import code_of, mask_of
from clashborn.errors import Ringed
from clashborn.frames import Frame
from clashborn.pairings import ends_within, need_pairs
from clashborn.pairwork import told_lot
from clashborn.pointtrees import coins_by, lots_merged
from clashborn.usable import need_lot, need_word


def coins_or_ring(frame, piece, pairs, clash_mask):
    """A pair (coins, ring), just one of them not None; clash_mask is of the told words that clash with the word."""
    flips = [(clash_mask >> told) & 1 for told in frame.pieces[piece]]
    coins, ring = coins_by(pairs, flips)
    if coins is None:
        return None, told_lot(frame, piece, ring)
    return coins, None


def coins_found(frame, piece, pairs, word):
    """The coins of the word; Ringed if there are none by these pairs."""
    coins, ring = coins_or_ring(frame, piece, pairs, frame.crossing(code_of(word)))
    if coins is None:
        raise Ringed(ring)
    return coins


def coins_of(house, piece, pairs, word):
    """The coins that the word has on the piece by these pairs; Ringed if it has none by them."""
    frame = Frame(house)
    need_pairs(frame, piece, pairs)
    need_word(house[0], word)
    return coins_found(frame, piece, pairs, word)


def coins_after(house, piece, pairs, word, lot):
    """The coins, added to the ends of the lot."""
    frame = Frame(house)
    need_pairs(frame, piece, pairs)
    need_word(house[0], word)
    need_lot(house, lot)
    ends = ends_within(frame, piece, pairs, mask_of(lot))
    return tuple(lots_merged(coins_found(frame, piece, pairs, word), ends))

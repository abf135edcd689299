"""Staying words: words of a piece's rest that give again what the piece adds to a word."""

from clashborn.bits import parity, swapped, word_of
from clashborn.frames import Frame
from clashborn.meetings import Visit
from clashborn.pieceforms import form_of
from clashborn.usable import need_piece, need_word


def kernel_by(codes, values):
    """A basis of those sums of independent codes whose values 0 and 1 add up to an even number."""
    kept = [code for code, value in zip(codes, values) if value == 0]
    odd = [code for code, value in zip(codes, values) if value == 1]
    return kept + [odd[0] ^ code for code in odd[1:]]


def stay_codes(visit, form):
    """A basis, as codes, of the staying words at the piece."""
    meeting, _, coins = visit.manner(form.piece)
    if meeting == "unmet":
        return []
    if meeting == "coined":
        # Beside rings the rest has at most the words of lots with all points as ends, which change the coins
        # to the points without one.
        return form.rest if 2 * len(coins) == form.points else form.rings
    if form.odd is not None:
        return form.rest
    tilt = swapped(visit.frame.places, visit.word_code)
    return kernel_by(form.rest, [form.sign(code) ^ parity(code & tilt) for code in form.rest])


def stay_basis(house, word, piece):
    """Any basis of the staying words."""
    need_word(house[0], word)
    frame = Frame(house)
    need_piece(frame, piece)
    return tuple([word_of(house[0], code) for code in stay_codes(Visit(frame, word), form_of(frame, piece))])

"""Ladders of made words."""

from clashborn.bits import code_of, word_of
from clashborn.frames import Frame
from clashborn.making import maker_in
from clashborn.toldwalks import ToldWalk
from clashborn.usable import need, need_word


def met_code(one, other):
    """A code that both walks reach; the walk with the smaller last level grows, so that both stay small."""
    met = [code for code in one.levels[-1] if code in other.came]
    while met == []:
        near, far = (one, other) if len(one.levels[-1]) < len(other.levels[-1]) else (other, one)
        near.grow()
        met = [code for code in near.levels[-1] if code in far.came]
    return met[0]


def way_up(frame, piece, code):
    """The list of told numbers, as short as can be, that leads from a told word of the piece to the made code."""
    told_walk = ToldWalk(frame, [frame.codes[told] for told in frame.pieces[piece]], frame.piece_masks[piece])
    made_walk = ToldWalk(frame, [code], frame.piece_masks[piece])
    met = met_code(told_walk, made_walk)
    # Turns lead back the same way.
    return told_walk.row_to(met) + made_walk.row_to(met)[::-1]


def ladder_rows(frame, piece, code):
    """The codes of a ladder whose last row is the code, made of the piece."""
    way = way_up(frame, piece, code)
    here = code
    for told in way:
        here = here ^ frame.codes[told]
    rows = [here]
    for told in way:
        if frame.codes[told] not in rows:
            rows.append(frame.codes[told])
        here = here ^ frame.codes[told]
        rows.append(here)
    return rows


def ladder_words(frame, piece, code):
    """The ladder of ladder_rows as a tuple of words."""
    return tuple([word_of(frame.places, row) for row in ladder_rows(frame, piece, code)])


def ladder_of(house, word):
    """Any ladder of the house with the made word as its last row."""
    need_word(house[0], word)
    frame = Frame(house)
    piece = maker_in(frame, code_of(word))
    need(piece is not None, "word")
    return ladder_words(frame, piece, code_of(word))

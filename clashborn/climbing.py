"""Ladders of made words."""

from clashborn.bits import code_of, word_of
from clashborn.frames import Frame
from clashborn.making import maker_in
from clashborn.toldwalks import ToldWalk
from clashborn.usable import need, need_word


def way_up(frame, piece, code):
    """The list of told numbers of the piece that lead from one of its told words, the first, to the made code."""
    told_at = {frame.codes[told]: told for told in frame.pieces[piece]}
    walk = ToldWalk(frame, code, frame.piece_masks[piece])
    found = [there for there in walk.levels[-1] if there in told_at]
    while found == []:
        walk.grow()
        found = [there for there in walk.levels[-1] if there in told_at]
    # Turns lead back the same way.
    return [told_at[found[0]]] + walk.row_to(found[0])[::-1]


def ladder_rows(frame, piece, code):
    """The codes of a ladder whose last row is the code, made of the piece."""
    way = way_up(frame, piece, code)
    here = frame.codes[way[0]]
    rows = [here]
    for told in way[1:]:
        if frame.codes[told] not in rows:
            rows.append(frame.codes[told])
        here = here ^ frame.codes[told]
        rows.append(here)
    return rows


def ladder_words(frame, piece, code):
    """The ladder of ladder_rows as a tuple of words."""
    return tuple([word_of(frame.places, row) for row in ladder_rows(frame, piece, code)])


def ladder_of(house, word):
    """Any ladder of the house with the made word as its last row."""
    need_word(house[0], word)
    frame = Frame(house)
    piece = maker_in(frame, code_of(word))
    need(piece is not None, "word")
    return ladder_words(frame, piece, code_of(word))

"""Papers of the kinds of pieces."""

from clashborn.bits import lot_of, mask_of, word_of
from clashborn.errors import InvalidPaper
from clashborn.frames import Frame
from clashborn.kinds import is_lot, is_numbers_below, is_wide_word, starts_with
from clashborn.ladderchecker import lets_ladder
from clashborn.pairings import pairs_piece
from clashborn.pairwalks import odd_mask, walk_of
from clashborn.signs import is_sign_word, sign_found
from clashborn.sixes import SixLadder, is_six
from clashborn.usable import need_piece

ENTRIES = {"lone": 1, "paired": 2, "strict": 4, "loose": 4}


def six_paper(house, frame, piece, walk):
    """The paper of a piece with a six."""
    built = SixLadder(frame, walk)
    ladder = tuple([word_of(frame.places, row) for row in built.rows])
    mask = odd_mask(frame, piece)
    if mask is None:
        return ("strict", ladder, built.six, sign_found(house, frame.pieces[piece]))
    return ("loose", ladder, built.six, lot_of(mask))


def kind_paper(house, piece):
    """A paper of the kind of the piece."""
    frame = Frame(house)
    need_piece(frame, piece)
    walk = walk_of(frame, piece)
    if walk.breaker is not None:
        return six_paper(house, frame, piece, walk)
    if len(frame.pieces[piece]) == 1:
        return ("lone",)
    return ("paired", walk.pairing())


def has_paper_shape(thing):
    """True if thing is a tuple with a kind first and with as many entries as papers of this kind."""
    return any([starts_with(kind, thing) and len(thing) == ENTRIES[kind] for kind in ENTRIES])


def is_ladder(house, thing):
    """True if thing is a ladder of the house."""
    try:
        lets_ladder(house, thing)
    except InvalidPaper:
        return False
    return True


def is_odd_relation(frame, piece, lot):
    """True if lot is an odd relation within the piece."""
    if not is_lot(len(frame.codes), lot) or any([told not in frame.pieces[piece] for told in lot]):
        return False
    mask = mask_of(lot)
    return frame.sum_code(mask) == 0 and frame.oddness(mask) == 1


def check_six(house, lot, ladder, rows):
    """Raise InvalidPaper unless the rows of the ladder show a six made of the words of the lot."""
    if not is_ladder((house[0], tuple([house[1][told] for told in lot])), ladder):
        raise InvalidPaper("ladder", -1)
    if not is_numbers_below(len(ladder), rows) or len(rows) != 6:
        raise InvalidPaper("rows", -1)
    if not is_six(house[0], tuple([ladder[row] for row in rows])):
        raise InvalidPaper("six", -1)


def check_kind(house, frame, piece, thing):
    """Raise InvalidPaper unless thing, a paper by its shape, shows the kind of the piece."""
    lot = frame.pieces[piece]
    if thing[0] == "lone" or thing[0] == "paired":
        if (len(lot) == 1) != (thing[0] == "lone"):
            raise InvalidPaper("many", -1)
        if thing[0] == "paired" and not pairs_piece(frame, piece, thing[1]):
            raise InvalidPaper("pairs", -1)
        return
    check_six(house, lot, thing[1], thing[2])
    if thing[0] == "strict" and not (is_wide_word(house[0], thing[3]) and is_sign_word(house, lot, thing[3])):
        raise InvalidPaper("sign", -1)
    if thing[0] == "loose" and not is_odd_relation(frame, piece, thing[3]):
        raise InvalidPaper("lot", -1)


def lets_kind(house, piece, thing):
    """The kind that the paper thing shows; InvalidPaper if it shows none of the piece."""
    frame = Frame(house)
    need_piece(frame, piece)
    if not has_paper_shape(thing):
        raise InvalidPaper("shape", -1)
    check_kind(house, frame, piece, thing)
    return thing[0]

"""Papers of what comes of a word and of what does not."""

from clashborn.bits import code_of, mask_of
from clashborn.comings import verdict_of
from clashborn.errors import InvalidPaper
from clashborn.frames import Frame
from clashborn.kinds import starts_with
from clashborn.lettings import side_at
from clashborn.meetings import Visit
from clashborn.refusals import check_joint, check_refusal
from clashborn.usable import need_other, need_word


def check_let(visit, mask):
    """Raise InvalidPaper unless the lot of this mask is let in each met piece."""
    for piece in visit.met_pieces:
        if side_at(visit, mask, piece) != 0:
            raise InvalidPaper("let", piece)


def check_still_met(visit, other):
    """Raise InvalidPaper unless other meets each met piece, too."""
    other_mask = visit.frame.crossing(code_of(other))
    for piece in visit.met_pieces:
        if other_mask & visit.frame.piece_masks[piece] == 0:
            raise InvalidPaper("still", piece)


def coming_paper(house, word, other):
    """("lot", lot) with a lot as lot_from if other comes of word, otherwise any refusal of other, from word."""
    need_word(house[0], word)
    need_other(house[0], other)
    return verdict_of(Frame(house), word, other)


def lets_coming(house, word, other, thing):
    """True for a paper with a lot, False for a refusal of other, from word."""
    need_word(house[0], word)
    need_other(house[0], other)
    frame = Frame(house)
    if not starts_with("lot", thing) or len(thing) != 2:
        check_refusal(frame, word, other, thing)
        return False
    visit = Visit(frame, word)
    check_joint(visit, visit.word_code ^ code_of(other), thing[1])
    check_let(visit, mask_of(thing[1]))
    check_still_met(visit, other)
    return True

"""Whether a word comes of a word, with a lot that shows it."""

from clashborn.bits import code_of, crossing_all, lot_of, lot_with_sum, mask_of, mask_sum, swapped, word_of
from clashborn.frames import Frame
from clashborn.lettings import shift_at, side_at
from clashborn.meetings import Visit
from clashborn.usable import need_other, need_word


def joint_mask(visit, code):
    """The mask of a lot of told words of met pieces with the sum of this code, or None."""
    lot = lot_of(visit.met_mask)
    local = lot_with_sum([visit.frame.codes[told] for told in lot], code)
    if local is None:
        return None
    return mask_of([lot[k] for k in lot_of(local)])


def parting_word(visit, code):
    """A word that is apart from all told words of met pieces and clashes with the word of this code."""
    frame = visit.frame
    swaps = [frame.swaps[told] for told in lot_of(visit.met_mask)]
    check, _ = crossing_all(swaps + [swapped(frame.places, code)], [0] * len(swaps) + [1])
    return word_of(frame.places, check)


def sides_verdict(visit, mask):
    """As verdict_of, when the joint lot of this mask has a side in each bound piece."""
    bound = [piece for piece in visit.met_pieces if visit.is_bound(piece)]
    sides = mask_of([k for k, piece in enumerate(bound) if side_at(visit, mask, piece) == 1])
    relations = visit.frame.relations(visit.met_mask)
    shifts = [mask_of([k for k, piece in enumerate(bound) if shift_at(visit, relation, piece) == 1])
              for relation in relations]
    chosen = lot_with_sum(shifts, sides)
    if chosen is not None:
        return ("lot", lot_of(mask ^ mask_sum(relations, chosen)))
    # No relations shift all sides to 0, so some of the pieces hold against all of them.
    holding, _ = crossing_all(shifts + [sides], [0] * len(shifts) + [1])
    return ("signs", lot_of(mask), tuple([bound[k] for k in lot_of(holding)]))


def verdict_of(frame, word, other):
    """("lot", lot) as lot_from if other comes of word, otherwise a refusal."""
    visit = Visit(frame, word)
    other_mask = frame.crossing(code_of(other))
    for piece in visit.met_pieces:
        if other_mask & frame.piece_masks[piece] == 0:
            return ("still", piece)
    code = visit.word_code ^ code_of(other)
    mask = joint_mask(visit, code)
    if mask is None:
        return ("apart", parting_word(visit, code))
    for piece in visit.met_pieces:
        if side_at(visit, mask, piece) is None:
            return ("coins", piece, visit.manner(piece)[1], lot_of(mask))
    return sides_verdict(visit, mask)


def comes_of(house, word, other):
    """True if other comes of word, otherwise False."""
    need_word(house[0], word)
    need_other(house[0], other)
    return verdict_of(Frame(house), word, other)[0] == "lot"


def lot_from(house, word, other):
    """If other comes of word: any lot that is let by word and has the sum of both as its sum. Otherwise None."""
    need_word(house[0], word)
    need_other(house[0], other)
    verdict = verdict_of(Frame(house), word, other)
    if verdict[0] == "lot":
        return verdict[1]
    return None

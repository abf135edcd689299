"""Refusals: papers that a word does not come of a word."""

from clashborn.bits import code_of, lot_of, mask_of, parity, swapped
from clashborn.coinwork import coins_or_ring
from clashborn.comings import verdict_of
from clashborn.errors import InvalidPaper
from clashborn.frames import Frame
from clashborn.kinds import is_lot, is_number, is_rising, is_wide_word, starts_with
from clashborn.lettings import shift_at, side_at
from clashborn.meetings import Visit
from clashborn.pairings import ends_within, pairs_piece
from clashborn.pairwalks import walk_of
from clashborn.pointtrees import count_points, lots_merged
from clashborn.usable import need_other, need_word

ENTRIES = {"still": 2, "apart": 2, "coins": 4, "signs": 3}


def has_refusal_shape(thing):
    """True if thing is a tuple with a string of refusals first and so many elements."""
    return any([starts_with(word, thing) and len(thing) == ENTRIES[word] for word in ENTRIES])


def check_met(visit, piece):
    """Raise InvalidPaper unless piece is the number of a met piece."""
    if not is_number(piece) or piece not in visit.met_pieces:
        raise InvalidPaper("piece", -1)


def check_joint(visit, code, lot):
    """Raise InvalidPaper unless lot is a joint lot, code being that of the sum."""
    if not is_lot(len(visit.frame.codes), lot) or mask_of(lot) & visit.met_mask != mask_of(lot):
        raise InvalidPaper("lot", -1)
    if visit.frame.sum_code(mask_of(lot)) != code:
        raise InvalidPaper("sum", -1)


def check_still(visit, code, thing):
    """Raise InvalidPaper unless the piece is met by the one word alone."""
    check_met(visit, thing[1])
    if visit.frame.crossing(visit.word_code ^ code) & visit.frame.piece_masks[thing[1]]:
        raise InvalidPaper("meets", -1)


def check_apart(visit, code, thing):
    """Raise InvalidPaper unless the check parts the sum from the told words of met pieces."""
    frame = visit.frame
    if not is_wide_word(frame.places, thing[1]):
        raise InvalidPaper("check", -1)
    check = code_of(thing[1])
    clashing = lot_of(frame.crossing(check) & visit.met_mask)
    if clashing != ():
        raise InvalidPaper("clash", clashing[0])
    if parity(check & swapped(frame.places, code)) == 0:
        raise InvalidPaper("apart", -1)


def check_coins(visit, code, thing):
    """Raise InvalidPaper unless the coins after the joint lot are too many or too few."""
    _, piece, pairs, lot = thing
    frame = visit.frame
    check_met(visit, piece)
    if len(frame.pieces[piece]) == 1 or walk_of(frame, piece).breaker is not None:
        raise InvalidPaper("piece", -1)
    if not pairs_piece(frame, piece, pairs):
        raise InvalidPaper("pairs", -1)
    coins, _ = coins_or_ring(frame, piece, pairs, visit.clash_mask)
    if coins is None:
        raise InvalidPaper("ring", -1)
    check_joint(visit, code, lot)
    after = len(lots_merged(coins, ends_within(frame, piece, pairs, mask_of(lot))))
    if after == len(coins) or after == count_points(pairs) - len(coins):
        raise InvalidPaper("let", -1)


def is_bound_pieces(visit, thing):
    """True if thing is an ascending tuple, not (), of met pieces in which lots have sides."""
    if not is_rising(thing) or thing == ():
        return False
    return all([piece in visit.met_pieces and visit.is_bound(piece) for piece in thing])


def check_signs(visit, code, thing):
    """Raise InvalidPaper unless the pieces hold an odd side against all relations."""
    _, lot, pieces = thing
    check_joint(visit, code, lot)
    if not is_bound_pieces(visit, pieces):
        raise InvalidPaper("pieces", -1)
    sides = [side_at(visit, mask_of(lot), piece) for piece in pieces]
    if None in sides:
        raise InvalidPaper("side", sides.index(None))
    if sum(sides) % 2 == 0:
        raise InvalidPaper("even", -1)
    for relation in visit.frame.relations(visit.met_mask):
        if sum([shift_at(visit, relation, piece) for piece in pieces]) % 2 == 1:
            raise InvalidPaper("shift", -1)


def check_refusal(frame, word, other, thing):
    """Raise InvalidPaper unless thing is a refusal of other, from word."""
    if not has_refusal_shape(thing):
        raise InvalidPaper("shape", -1)
    visit = Visit(frame, word)
    code = visit.word_code ^ code_of(other)
    if thing[0] == "still":
        check_still(visit, code, thing)
    elif thing[0] == "apart":
        check_apart(visit, code, thing)
    elif thing[0] == "coins":
        check_coins(visit, code, thing)
    else:
        check_signs(visit, code, thing)


def is_refusal(frame, word, other, thing):
    """True if thing is a refusal of other, from word."""
    try:
        check_refusal(frame, word, other, thing)
    except InvalidPaper:
        return False
    return True


def refusal_of(house, word, other):
    """None if other comes of word, otherwise any refusal of other, from word."""
    need_word(house[0], word)
    need_other(house[0], other)
    verdict = verdict_of(Frame(house), word, other)
    if verdict[0] == "lot":
        return None
    return verdict


def lets_refusal(house, word, other, thing):
    """The first element of a refusal of other, from word; InvalidPaper if thing is none."""
    need_word(house[0], word)
    need_other(house[0], other)
    check_refusal(Frame(house), word, other, thing)
    return thing[0]

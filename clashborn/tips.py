"""How many words tip a house, and one that does."""

from math import comb

from clashborn.bits import crossing_all, crossing_none, word_of
from clashborn.coinwork import coins_or_ring
from clashborn.errors import Shared
from clashborn.frames import Frame
from clashborn.furthers import is_unpaired
from clashborn.pairwalks import walk_of
from clashborn.pieceforms import form_of
from clashborn.sharings import dimension_by, first_sharing
from clashborn.usable import need, need_piece


def kept_patterns(form):
    """A pair for a paired piece: in how many ways words can meet it that alone keep it paired, and one-pointed.

    A way is the told words of the piece with which a word clashes.
    """
    if form.points <= 4:
        met = (1 << len(form.basis)) - 1
        return met, met
    # With a whole relation no word has coins on an odd number of points.
    single = form.points if form.whole is None else 0
    return single + comb(form.points, 2), single


def kept_ways(forms):
    """In how many ways words can meet all these lone and paired pieces, which are clear, and tip nothing."""
    lone_ways = 1
    ways = 0
    singles = 0
    for form in forms:
        if form.kind == "lone":
            lone_ways = lone_ways * 2
        else:
            kept, single = kept_patterns(form)
            # One of the pieces before it, one-pointed as well, may be met beside it.
            ways = ways + kept + singles * single
            singles = singles + single
    return lone_ways + ways + singles * (lone_ways - 1)


def kept_count(house):
    """How many words do not tip the house; NotUsable if a piece is strict or loose, Shared if pieces share."""
    frame = Frame(house)
    pieces = list(range(len(frame.pieces)))
    forms = [form_of(frame, piece) for piece in pieces]
    need(not any([is_unpaired(form.kind) for form in forms]), "house")
    sharing = first_sharing(frame, pieces)
    if sharing is not None:
        raise Shared(sharing)
    return kept_ways(forms) << (2 * frame.places - dimension_by(frame.codes))


def tip_count(house):
    """How many words tip the house; refused as kept_count is."""
    kept = kept_count(house)
    return (1 << (2 * house[0])) - kept


def tip_form(house, piece):
    """The form of the piece, which must be lone or paired."""
    frame = Frame(house)
    need_piece(frame, piece)
    need(walk_of(frame, piece).breaker is None, "piece")
    return form_of(frame, piece)


def free_codes(form):
    """A basis of the words that meet no other piece."""
    frame = form.frame
    others = [swap for told, swap in enumerate(frame.swaps) if told not in form.lot]
    return crossing_none(others, 2 * frame.places)


def code_with_coins(form, many):
    """The code of a word with coins on the first points, so many, that meets no other piece; None if there is none."""
    wishes = [0] * len(form.frame.codes)
    for told, pair in zip(form.lot, form.pairs):
        wishes[told] = len([point for point in pair if point < many]) % 2
    return crossing_all(form.frame.swaps, wishes)[0]


def tip_code(form):
    """The code of a word that meets this piece alone and tips the house, or None."""
    # By four points each word has at most two coins by some pairing; from five on it may have three, or none at all.
    if form.points <= 4:
        return None
    for code in free_codes(form):
        if coins_or_ring(form.frame, form.piece, form.pairs, form.frame.crossing(code))[0] is None:
            return code
    # If only even numbers of coins can be had, four coins are one step farther from one or two.
    for many in (3, 4):
        code = code_with_coins(form, many)
        if code is not None and form.points - many >= 3:
            return code
    return None


def tip_word(house, piece):
    """Any further word that meets this piece and no other one and tips the house; None if there is none."""
    code = tip_code(tip_form(house, piece))
    if code is None:
        return None
    return word_of(house[0], code)


def tip_word_count(house, piece):
    """How many words tip_word may return."""
    form = tip_form(house, piece)
    if form.points <= 4:
        return 0
    singles = 0 if code_with_coins(form, 1) is None else form.points
    # Unmet, one coin or two: all other ways to meet the piece tip.
    kept = 1 + singles + comb(form.points, 2)
    still = 2 * house[0] - dimension_by(form.frame.codes)
    return (1 << len(free_codes(form))) - (kept << still)

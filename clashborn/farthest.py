"""The greatest of the fewest turns from a word."""

from clashborn.bits import parity, swapped
from clashborn.errors import Shared
from clashborn.frames import Frame
from clashborn.meetings import Visit
from clashborn.pieceforms import form_of
from clashborn.pointtrees import coins_by
from clashborn.sharings import first_sharing
from clashborn.usable import need_word


def large_farthest(visit, form):
    """The most turns at a piece that has a pairing with at least six points."""
    _, _, coins = visit.manner(form.piece)
    if coins is None:
        # A whole relation with an even number of jumps lets each jump be counted from the other points, too.
        return form.points // 4 if form.whole is not None and form.points % 4 == 0 else form.points // 2
    most = len(coins)
    if form.whole is not None and 2 * most == form.points:
        most = most // 2
    return most if form.rings == [] else max(most, 2)


def rest_clashes(visit, form):
    """For each word of the basis of the piece's rest 1 if the word of the visit clashes with it, otherwise 0."""
    swap = swapped(visit.frame.places, visit.word_code)
    return [parity(code & swap) for code in form.rest]


def paired_farthest(visit, form):
    """The most turns at a paired piece with at most five points."""
    # Two turns add a word of the rest that the word is apart from, or four of five points.
    if len(form.rest) > max(rest_clashes(visit, form) + [0]):
        return 2
    if form.points < 5:
        return 1
    if form.rest != []:
        return 2
    coins, _ = coins_by(form.pairs, [(visit.clash_mask >> told) & 1 for told in form.lot])
    return len(coins)


def swept_farthest(visit, form):
    """The most turns at a strict or loose piece."""
    if 1 not in rest_clashes(visit, form):
        return 2
    if form.odd is not None or 1 in [form.sign(code) for code in form.rest]:
        return 3
    return 2


def farthest_at(visit, form):
    """The most turns at a met piece."""
    if form.kind == "lone":
        return 1
    if form.kind != "paired":
        return swept_farthest(visit, form)
    return large_farthest(visit, form) if form.is_large() else paired_farthest(visit, form)


def farthest_turns(house, word):
    """The greatest of the fewest turns from word to the words that come of it; Shared if met pieces share."""
    need_word(house[0], word)
    frame = Frame(house)
    visit = Visit(frame, word)
    piece = first_sharing(frame, visit.met_pieces)
    if piece is not None:
        raise Shared(piece)
    return sum([farthest_at(visit, form_of(frame, piece)) for piece in visit.met_pieces])

"""The fewest turns from a word to a word that comes of it."""

from clashborn.bits import code_of, mask_of, parity
from clashborn.comings import Start
from clashborn.errors import Refused, Shared
from clashborn.frames import Frame
from clashborn.lettings import side_at
from clashborn.pairings import ends_within
from clashborn.pieceforms import form_of
from clashborn.sharings import first_sharing
from clashborn.usable import need_other, need_word


def way_to(frame, word, other):
    """A pair (visit, mask): a lot let by word with the sum of both; Refused, or Shared, if there is no way to tell."""
    start = Start(frame, word)
    verdict = start.verdict(code_of(other))
    if verdict[0] != "lot":
        raise Refused(verdict)
    piece = first_sharing(frame, start.visit.met_pieces)
    if piece is not None:
        raise Shared(piece)
    return start.visit, mask_of(verdict[1])


def least_let(visit, form, part):
    """The mask, with the fewest ends, of a let lot within a large piece that has the sum of the let part."""
    masks = [part] if form.whole is None else [part, part ^ form.whole]
    ranked = [(len(ends_within(visit.frame, form.piece, form.pairs, mask)), mask)
              for mask in masks if side_at(visit, mask, form.piece) == 0]
    return min(ranked)[1]


def turns_at(visit, form, part):
    """The fewest turns by words made of the piece that add the sum of a let lot of this mask within it."""
    code = visit.frame.sum_code(part)
    if code == 0:
        return 0
    if len(form.lot) == 1:
        return 1
    if form.is_large():
        ends = ends_within(visit.frame, form.piece, form.pairs, least_let(visit, form, part))
        return 2 if ends == () else len(ends) // 2
    if parity(part & visit.clash_mask) == 0:
        return 2
    return 1 if form.crossing(code) else 3


def fewest_turns(house, word, other):
    """The fewest turns from word to other; Refused if other does not come, Shared if met pieces share."""
    need_word(house[0], word)
    need_other(house[0], other)
    frame = Frame(house)
    visit, mask = way_to(frame, word, other)
    forms = [form_of(frame, piece) for piece in visit.met_pieces]
    return sum([turns_at(visit, form, mask & form.mask) for form in forms])

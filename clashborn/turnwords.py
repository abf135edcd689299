"""Made words that lead from a word to a word that comes of it, as few as can be."""

from clashborn.bits import crossing_all, crossing_none, lot_of, mask_of, mask_sum, parity, word_of
from clashborn.fewest import least_let, way_to
from clashborn.frames import Frame
from clashborn.pairings import ends_within
from clashborn.pieceforms import form_of
from clashborn.pointtrees import coins_by, path_between, root_paths
from clashborn.usable import need_other, need_word


def fitted_sum(form, rows, wishes):
    """The code of a sum of the piece as wished, with the sign 1 unless the piece has an odd relation, or None.

    Rows and wishes tell which of the sum's basis words count for what the sum has to clash with.
    """
    found, _ = crossing_all(rows, wishes)
    if found is None:
        return None
    free = crossing_none(rows, len(form.basis))
    # A sign depends on pairs of words, so if no two steps away from a sum change it, no steps do.
    steps = [0] + free + [free[high] ^ free[low] for high in range(len(free)) for low in range(high)]
    for step in steps:
        code = mask_sum(form.basis, found ^ step)
        if form.odd is not None or form.sign(code) == 1:
            return code
    return None


def two_turns(form, crossing, code):
    """The codes of two words made of a small piece that turn a word by this code, which is apart from the word.

    Crossing is the mask of the piece's told words with which the word clashes.
    """
    apart = form.crossing(code)
    rows = [form.basis_row(crossing), form.basis_row(apart)]
    # Both words have to clash with a told word, the first one with one, the second one with other.
    for one in form.lot:
        for other in form.lot:
            more = [form.basis_row(form.frame.ties[one]), form.basis_row(form.frame.ties[other])]
            first = fitted_sum(form, rows + more, [1, 0, 1, 1 ^ ((apart >> other) & 1)])
            if first is not None:
                return [first, first ^ code]
    return []


def small_turns(visit, form, part):
    """The codes of the turns at a piece that is strict, loose, or has at most five points."""
    code = visit.frame.sum_code(part)
    crossing = visit.clash_mask & form.mask
    if parity(part & visit.clash_mask) == 0:
        return two_turns(form, crossing, code)
    if form.crossing(code):
        return [code]
    told = lot_of(crossing)[0]
    by = visit.frame.codes[told]
    return [by] + two_turns(form, crossing ^ visit.frame.ties[told], code ^ by)


def jumps_at(visit, form, ends):
    """The pairs of points, as many as can be parted from the ends, that turns lead along."""
    coins = visit.manner(form.piece)[2]
    if coins is None:
        return list(zip(ends[::2], ends[1::2]))
    return list(zip([point for point in ends if point in coins], [point for point in ends if point not in coins]))


def large_turns(visit, form, part):
    """The codes of the turns at a piece that has a pairing with at least six points."""
    code = visit.frame.sum_code(part)
    ends = ends_within(visit.frame, form.piece, form.pairs, least_let(visit, form, part))
    if ends == ():
        # A ring is apart from the piece, so any turn and its sum with the ring make both.
        by = visit.frame.codes[lot_of(visit.clash_mask & form.mask)[0]]
        return [by, code ^ by]
    paths = root_paths(form.pairs)
    flips = [(visit.clash_mask >> told) & 1 for told in form.lot]
    _, ring = coins_by(form.pairs, flips)
    turns = []
    for one, other in jumps_at(visit, form, ends)[1:]:
        places = path_between(paths, one, other)
        turn = mask_sum(form.codes, mask_of(places))
        if sum([flips[at] for at in places]) % 2 == 0:
            turn = turn ^ mask_sum(form.codes, mask_of(ring))
        turns.append(turn)
        code = code ^ turn
    # What is left has the two ends that were left out.
    return turns + [code]


def codes_at(visit, form, part):
    """The codes of the fewest turns, by words made of the piece, that add the sum of a let lot within it."""
    if visit.frame.sum_code(part) == 0:
        return []
    if len(form.lot) == 1:
        return list(form.codes)
    if form.is_large():
        return large_turns(visit, form, part)
    return small_turns(visit, form, part)


def turns_in(frame, word, other):
    """The codes of the fewest turns from word to other, piece by piece; Refused or Shared as fewest_turns."""
    visit, mask = way_to(frame, word, other)
    turns = []
    for piece in visit.met_pieces:
        form = form_of(frame, piece)
        turns.extend(codes_at(visit, form, mask & form.mask))
    return turns


def turn_words(house, word, other):
    """Any tuple of made words, as many as the fewest turns, that lead from word to other."""
    need_word(house[0], word)
    need_other(house[0], other)
    return tuple([word_of(house[0], code) for code in turns_in(Frame(house), word, other)])

"""How many made words begin with given letters, or show given bits."""

from clashborn.balances import sign_balance
from clashborn.bits import code_of, mask_of, mask_sum, reduced, span_of
from clashborn.frames import Frame
from clashborn.pieceforms import form_of
from clashborn.piececounts import power_of_two
from clashborn.pointtrees import root_paths
from clashborn.usable import need, need_piece


def sums_showing(basis, shown, wanted):
    """A pair (offset, steps) of sums of the basis: all that have the wanted bits at the shown ones are the offset's
    sums with sums of the steps. None if there are none."""
    rows, _, relations = span_of([code & shown for code in basis])
    left, mask = reduced(rows, wanted)
    if left:
        return None
    return mask_sum(basis, mask), [mask_sum(basis, relation) for relation in relations]


def size_showing(basis, shown, wanted):
    """How many sums of the basis have the wanted bits at the shown ones."""
    found = sums_showing(basis, shown, wanted)
    return 0 if found is None else power_of_two(found[1])


def ones_showing(form, basis, shown, wanted):
    """How many of these sums have the sign 1."""
    found = sums_showing(basis, shown, wanted)
    if found is None:
        return 0
    offset, steps = found
    return (power_of_two(steps) - sign_balance(form, steps, offset, 0)) // 2


def residue(rows, code):
    """The code with rows added wherever it has their top bits: like for codes that differ by sums of the rows."""
    left = code
    for top in sorted(rows)[::-1]:
        if (left >> (top - 1)) & 1:
            left = left ^ rows[top][0]
    return left


def count_apart(values, difference):
    """How many pairs of places have values that differ by just this, as exclusive or."""
    counts = {}
    pairs = 0
    for value in values:
        pairs = pairs + counts.get(value ^ difference, 0)
        counts[value] = counts.get(value, 0) + 1
    return pairs


def paired_showing(form, shown, wanted):
    """How many words made of a paired piece have the wanted bits at the shown ones."""
    rows, firsts, _ = span_of([code & shown for code in form.rings])
    paths = root_paths(form.pairs)
    # The words of two points are the way between them and all rings; a way is the sum of both ways from point 0.
    ways = [residue(rows, mask_sum(form.codes, mask_of(paths[point])) & shown) for point in sorted(paths)]
    pairs = count_apart(ways, residue(rows, wanted))
    if form.points == 4 and form.whole is not None:
        pairs = pairs // 2
    return pairs << (len(form.rings) - len(firsts))


def piece_showing(form, shown, wanted):
    """How many words made of the piece have the wanted bits at the shown ones."""
    if form.kind == "lone":
        return 1 if form.codes[0] & shown == wanted else 0
    if form.kind == "paired":
        return paired_showing(form, shown, wanted)
    if form.kind == "loose":
        return size_showing(form.basis, shown, wanted) - size_showing(form.rest, shown, wanted)
    return ones_showing(form, form.basis, shown, wanted) - ones_showing(form, form.rest, shown, wanted)


def made_showing(frame, shown, wanted):
    """How many made words have the wanted bits at the shown ones."""
    return sum([piece_showing(form_of(frame, piece), shown, wanted) for piece in range(len(frame.pieces))])


def start_bits(places, start):
    """A pair (shown, wanted) of bits that words with so many letters have exactly if they begin with start."""
    below = 2 * (places - len(start))
    return ((1 << (2 * places)) - (1 << below), code_of(start) << below)


def need_start(places, start):
    """The parameter start must be a string of at most so many letters."""
    is_start = isinstance(start, str) and all([letter in "IXYZ" for letter in start])
    need(is_start and len(start) <= places, "start")


def made_with(house, start):
    """How many made words begin with start."""
    need_start(house[0], start)
    shown, wanted = start_bits(house[0], start)
    return made_showing(Frame(house), shown, wanted)


def piece_with(house, piece, start):
    """How many words made of the piece begin with start."""
    frame = Frame(house)
    need_piece(frame, piece)
    need_start(house[0], start)
    shown, wanted = start_bits(house[0], start)
    return piece_showing(form_of(frame, piece), shown, wanted)

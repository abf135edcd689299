"""How many words come of a word."""

from math import comb

from clashborn.balances import sign_balance
from clashborn.bits import crossing_all, mask_sum, parity, span_of, swapped
from clashborn.frames import Frame
from clashborn.meetings import Visit
from clashborn.pieceforms import form_of
from clashborn.piececounts import power_of_two
from clashborn.staying import stay_codes
from clashborn.usable import need_piece, need_word


def like_sum(visit, form):
    """The code of a sum of the piece that clashes with the same told words of it as the word, which one does."""
    rows = [form.basis_row(visit.frame.ties[told]) for told in form.lot]
    found, _ = crossing_all(rows, [(visit.clash_mask >> told) & 1 for told in form.lot])
    return mask_sum(form.basis, found)


def swept_added(visit, form):
    """How many words a lone piece, or one that is swept by the word, adds."""
    tilt = swapped(visit.frame.places, visit.word_code)
    # If the word clashes with no word of the rest, some sums lead to words that do not meet the piece.
    is_left = all([parity(code & tilt) == 0 for code in form.rest])
    if form.odd is not None:
        return power_of_two(form.basis) - (power_of_two(form.rest) if is_left else 0)
    zeros = (power_of_two(form.basis) + sign_balance(form, form.basis, 0, tilt)) // 2
    if not is_left:
        return zeros
    # The like sum and its sums with the rest are those, and the word is apart from all of them.
    return zeros - (power_of_two(form.rest) + sign_balance(form, form.rest, like_sum(visit, form), 0)) // 2


def coined_added(form, coins):
    """How many words a piece that is coined by the word adds."""
    ways = comb(form.points, len(coins))
    # With a whole relation, coins on one half of the points are those on the other half, too.
    if form.whole is not None and 2 * len(coins) == form.points:
        ways = ways // 2
    return ways * power_of_two(form.rings)


def added_at(visit, form):
    """How many words the piece adds to the word of the visit."""
    meeting, _, coins = visit.manner(form.piece)
    if meeting == "unmet":
        return 1
    return coined_added(form, coins) if meeting == "coined" else swept_added(visit, form)


def coming_count(house, word):
    """How many words come of word, itself among them."""
    need_word(house[0], word)
    frame = Frame(house)
    visit = Visit(frame, word)
    many = 1
    stays = []
    for piece in visit.met_pieces:
        form = form_of(frame, piece)
        many = many * added_at(visit, form)
        stays.extend(stay_codes(visit, form))
    # What pieces share are staying words, and of those each sum is counted once.
    return many * power_of_two(span_of(stays)[1]) // power_of_two(stays)


def added_count(house, word, piece):
    """How many words the piece alone adds to word, the blank one among them."""
    need_word(house[0], word)
    frame = Frame(house)
    need_piece(frame, piece)
    return added_at(Visit(frame, word), form_of(frame, piece))


def still_count(house):
    """How many words meet no piece, the blank word among them."""
    return 1 << (2 * house[0] - len(span_of(Frame(house).codes)[1]))

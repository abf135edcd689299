"""How many words are made, and how many sums there are."""

from clashborn.balances import sign_balance
from clashborn.frames import Frame
from clashborn.pieceforms import form_of
from clashborn.usable import need_piece


def power_of_two(codes):
    """How many sums so many independent codes have."""
    return 1 << len(codes)


def paired_size(form):
    """How many words are made of a paired piece."""
    pairs = form.points * (form.points - 1) // 2
    # With a whole relation, two points out of four have the same words as the other two.
    if form.points == 4 and form.whole is not None:
        pairs = pairs // 2
    return pairs * power_of_two(form.rings)


def ones_among(form, basis):
    """How many sums of the basis have the sign 1."""
    return (power_of_two(basis) - sign_balance(form, basis, 0, 0)) // 2


def piece_size(form):
    """How many words are made of the piece."""
    if form.kind == "lone":
        return 1
    if form.kind == "paired":
        return paired_size(form)
    if form.kind == "loose":
        return power_of_two(form.basis) - power_of_two(form.rest)
    return ones_among(form, form.basis) - ones_among(form, form.rest)


def made_size(frame):
    """How many words are made of all pieces."""
    return sum([piece_size(form_of(frame, piece)) for piece in range(len(frame.pieces))])


def piece_count(house, piece):
    """How many words are made of the piece."""
    frame = Frame(house)
    need_piece(frame, piece)
    return piece_size(form_of(frame, piece))


def made_count(house):
    """How many made words the house has."""
    return made_size(Frame(house))


def sums_count(house, piece):
    """How many sums the piece has, the blank word among them."""
    frame = Frame(house)
    need_piece(frame, piece)
    return power_of_two(form_of(frame, piece).basis)

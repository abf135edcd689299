"""Balances: how many sums have the sign 0, less how many have the sign 1."""

from clashborn.bits import lot_of, parity, swapped
from clashborn.crossed import crossed_codes
from clashborn.errors import Odd
from clashborn.frames import Frame
from clashborn.pieceforms import form_of
from clashborn.usable import need_piece


def pairs_balance(pair_values, rest_values):
    """The balance of values 0 and 1 over all sums of a crossed basis, told by those of its words."""
    balance = 1
    for one, other in pair_values:
        # Of the sums of a pair three have one value and one has the other one.
        balance = balance * (-2 if one == 1 and other == 1 else 2)
    for value in rest_values:
        balance = balance * (0 if value == 1 else 2)
    return balance


def sign_balance(form, basis, offset, tilt):
    """How many of the offset's sums with sums of the basis have the value 0, less how many have the value 1.

    All are sums of a piece without an odd relation. The value of a code is its sign, changed if the code shares an
    odd number of bits with the tilt.
    """
    # A sign of a sum is that of both, changed if both clash, so the offset tilts the values of the basis.
    slope = tilt ^ swapped(form.frame.places, offset)
    pairs, rest = crossed_codes(form.frame.places, basis)
    pair_values = [[form.sign(code) ^ parity(code & slope) for code in pair] for pair in pairs]
    balance = pairs_balance(pair_values, [form.sign(code) ^ parity(code & slope) for code in rest])
    return -balance if form.sign(offset) ^ parity(offset & tilt) else balance


def balance_of(house, piece):
    """How many sums of the piece have the sign 0, less how many have the sign 1; Odd if it has an odd relation."""
    frame = Frame(house)
    need_piece(frame, piece)
    form = form_of(frame, piece)
    if form.odd is not None:
        raise Odd(lot_of(form.odd))
    return sign_balance(form, form.basis, 0, 0)

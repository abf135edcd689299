"""What is known of a piece once and for all: its sums, its rest, its signs and its points."""

from clashborn.bits import code_of, mask_of, mask_sum, parity, span_of, swapped
from clashborn.pairwalks import kind_at, odd_mask, walk_of
from clashborn.pairwork import whole_mask
from clashborn.pointtrees import count_points, ring_at, root_paths
from clashborn.signs import sign_found
from clashborn.spans import rest_codes


def independent_codes(codes):
    """The list of those codes that are no sums of the codes before them."""
    return [codes[k] for k in span_of(codes)[1]]


def ring_sums(pairs, codes):
    """For each pair the sum of its ring with the tree, 0 for a pair of the tree itself; codes are of their words."""
    paths = root_paths(pairs)
    return [mask_sum(codes, mask_of(ring_at(pairs, paths, at))) for at in range(len(pairs))]


class Form:
    """A piece of a frame: bases of its sums and of its rest, its kind, and its points if it is lone or paired."""

    def __init__(self, frame, piece):
        self.frame = frame
        self.piece = piece
        self.lot = frame.pieces[piece]
        self.mask = frame.piece_masks[piece]
        self.codes = [frame.codes[told] for told in self.lot]
        self.firsts = [self.lot[k] for k in span_of(self.codes)[1]]
        self.basis = [frame.codes[told] for told in self.firsts]
        self.kind = kind_at(frame, piece)
        self.rest = rest_codes(frame.places, self.codes)
        self.odd = odd_mask(frame, piece)
        self.sign_swap = None
        if self.odd is None:
            sign_word = sign_found((frame.places, frame.told_words), self.lot)
            self.sign_swap = swapped(frame.places, code_of(sign_word))
        self.pairs = walk_of(frame, piece).pairing()
        self.points = 0 if self.pairs is None else count_points(self.pairs)
        self.whole = None if self.pairs is None else whole_mask(frame, piece, self.pairs)
        self.rings = [] if self.pairs is None else independent_codes(ring_sums(self.pairs, self.codes))

    def is_large(self):
        """True if the piece has a pairing with at least six points, so that words can have coins on it for good."""
        return self.points >= 6

    def basis_row(self, mask):
        """The mask of the places in the basis whose told words are in the mask."""
        return mask_of([k for k, told in enumerate(self.firsts) if (mask >> told) & 1])

    def crossing(self, code):
        """The mask of the piece's told words that clash with the word of this code."""
        return self.frame.crossing(code) & self.mask

    def sign(self, code):
        """The sign of this code by a sign word of the piece, which has no odd relation."""
        low_bits = ((1 << (2 * self.frame.places)) - 1) // 3
        return parity(code & (code >> 1) & low_bits) ^ parity(code & self.sign_swap)


def form_of(frame, piece):
    """The form of the piece of this number."""
    if piece not in frame.forms:
        frame.forms[piece] = Form(frame, piece)
    return frame.forms[piece]

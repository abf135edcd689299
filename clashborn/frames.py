"""A house with its words as numbers, its ties and its pieces, for functions that need them together."""

from clashborn.bits import code_of, crossing_mask, lot_of, mask_of, mask_sum, parity, span_of, swapped


def reach(ties, start):
    """The mask of all told words that are tied to the word start, along ties."""
    reached = 1 << start
    edge = [start]
    while edge:
        near = ties[edge.pop()]
        fresh = near ^ (near & reached)
        reached = reached ^ fresh
        edge.extend(lot_of(fresh))
    return reached


def pieces_from(ties):
    """The tuple of the pieces, each as the lot of its told words."""
    pieces = []
    seen = 0
    for k in range(len(ties)):
        if (seen >> k) & 1 == 0:
            reached = reach(ties, k)
            seen = seen ^ reached
            pieces.append(lot_of(reached))
    return tuple(pieces)


class Frame:
    """A house: its words as codes, for each the mask of those that clash with it, and its pieces."""

    def __init__(self, house):
        self.places = house[0]
        self.told_words = house[1]
        self.codes = [code_of(word) for word in house[1]]
        self.swaps = [swapped(house[0], code) for code in self.codes]
        self.ties = [crossing_mask(code, self.swaps) for code in self.codes]
        self.pieces = pieces_from(self.ties)
        self.piece_masks = [mask_of(lot) for lot in self.pieces]
        # What is found out of a piece, by its number, so that it is found out once.
        self.walks = {}
        self.forms = {}
        self.starts = {}

    def crossing(self, code):
        """The mask of the told words that clash with the word of this code."""
        return crossing_mask(code, self.swaps)

    def sum_code(self, mask):
        """The code of the sum of the told words of the mask."""
        return mask_sum(self.codes, mask)

    def oddness(self, mask):
        """1 if the lot of this mask is odd, otherwise 0."""
        odd = parity(mask)
        for k in lot_of(mask):
            # Bits below k alone, so that each pair that clashes counts once.
            odd = odd ^ parity(self.ties[k] & mask & ((1 << k) - 1))
        return odd

    def relations(self, mask):
        """A basis, as masks, of the relations of told words of the mask."""
        lot = lot_of(mask)
        masks = span_of([self.codes[k] for k in lot])[2]
        return [mask_of([lot[k] for k in lot_of(local)]) for local in masks]

    def met(self, crossing):
        """The list of the numbers of the pieces with a told word in the mask crossing."""
        return [k for k, mask in enumerate(self.piece_masks) if mask & crossing]

"""Whether a word comes of a word, with a lot that shows it."""

from clashborn.bits import code_of, crossing_all, lot_of, lot_with_sum, mask_of, mask_sum, swapped, word_of
from clashborn.frames import Frame
from clashborn.lettings import shift_at, side_at
from clashborn.meetings import Visit
from clashborn.usable import need_other, need_word


def parting_word(frame, lot, code):
    """A word that is apart from the told words of the lot and clashes with the word of this code, or None."""
    swaps = [frame.swaps[told] for told in lot]
    check, _ = crossing_all(swaps + [swapped(frame.places, code)], [0] * len(swaps) + [1])
    if check is None:
        return None
    return word_of(frame.places, check)


class Start:
    """A word of a house, made ready to tell of any other word whether it comes of it."""

    def __init__(self, frame, word):
        self.frame = frame
        self.visit = Visit(frame, word)
        self.lot = lot_of(self.visit.met_mask)
        self.bound = [piece for piece in self.visit.met_pieces if self.visit.is_bound(piece)]
        self.met_relations = frame.relations(self.visit.met_mask)
        self.shifts = [mask_of([k for k, piece in enumerate(self.bound) if shift_at(self.visit, relation, piece) == 1])
                       for relation in self.met_relations]

    def joint_mask(self, code):
        """The mask of a lot of told words of met pieces with the sum of this code, or None."""
        local = lot_with_sum([self.frame.codes[told] for told in self.lot], code)
        if local is None:
            return None
        return mask_of([self.lot[k] for k in lot_of(local)])

    def sides_verdict(self, mask):
        """As verdict, when the joint lot of this mask has a side in each bound piece."""
        sides = mask_of([k for k, piece in enumerate(self.bound) if side_at(self.visit, mask, piece) == 1])
        chosen = lot_with_sum(self.shifts, sides)
        if chosen is not None:
            return ("lot", lot_of(mask ^ mask_sum(self.met_relations, chosen)))
        # No relations shift all sides to 0, so some of the pieces hold against all of them.
        holding, _ = crossing_all(self.shifts + [sides], [0] * len(self.shifts) + [1])
        return ("signs", lot_of(mask), tuple([self.bound[k] for k in lot_of(holding)]))

    def verdict(self, other_code):
        """("lot", lot) as lot_from if the word of this code comes, otherwise a refusal."""
        other_mask = self.frame.crossing(other_code)
        for piece in self.visit.met_pieces:
            if other_mask & self.frame.piece_masks[piece] == 0:
                return ("still", piece)
        code = self.visit.word_code ^ other_code
        mask = self.joint_mask(code)
        if mask is None:
            return ("apart", parting_word(self.frame, self.lot, code))
        for piece in self.visit.met_pieces:
            if side_at(self.visit, mask, piece) is None:
                return ("coins", piece, self.visit.manner(piece)[1], lot_of(mask))
        return self.sides_verdict(mask)

    def comes(self, other_code):
        """True if the word of this code comes, otherwise False."""
        return self.verdict(other_code)[0] == "lot"


def verdict_of(frame, word, other):
    """("lot", lot) as lot_from if other comes of word, otherwise a refusal."""
    return Start(frame, word).verdict(code_of(other))


def comes_of(house, word, other):
    """True if other comes of word, otherwise False."""
    need_word(house[0], word)
    need_other(house[0], other)
    return verdict_of(Frame(house), word, other)[0] == "lot"


def lot_from(house, word, other):
    """If other comes of word: any lot that is let by word and has the sum of both as its sum. Otherwise None."""
    need_word(house[0], word)
    need_other(house[0], other)
    verdict = verdict_of(Frame(house), word, other)
    if verdict[0] == "lot":
        return verdict[1]
    return None

"""How a word meets the pieces of a house."""

from clashborn.bits import code_of
from clashborn.frames import Frame
from clashborn.pairwalks import walk_of
from clashborn.pointtrees import coins_by, count_points
from clashborn.usable import need_piece, need_word


def manner_at(frame, crossing, piece):
    """(meeting, pairs, coins) of a word with this mask of clashing told words; the last two for "coined" alone."""
    lot = frame.pieces[piece]
    if crossing & frame.piece_masks[piece] == 0:
        return ("unmet", None, None)
    if len(lot) == 1:
        return ("lone", None, None)
    pairs = walk_of(frame, piece).pairing()
    if pairs is None or count_points(pairs) < 6:
        return ("swept", None, None)
    coins, _ = coins_by(pairs, [(crossing >> told) & 1 for told in lot])
    if coins is None:
        return ("swept", None, None)
    return ("coined", pairs, coins)


class Visit:
    """A word at a house: the mask of the told words that clash with it, the pieces that it meets, and how."""

    def __init__(self, frame, word):
        self.frame = frame
        self.word_code = code_of(word)
        self.clash_mask = frame.crossing(self.word_code)
        self.met_pieces = frame.met(self.clash_mask)
        self.met_mask = sum([frame.piece_masks[piece] for piece in self.met_pieces])
        self.manners = {}

    def manner(self, piece):
        """manner_at this piece."""
        if piece not in self.manners:
            self.manners[piece] = manner_at(self.frame, self.clash_mask, piece)
        return self.manners[piece]

    def is_bound(self, piece):
        """True if the piece is swept, or coined and not halved, so that a lot has a side there."""
        meeting, pairs, coins = self.manner(piece)
        return meeting == "swept" or (meeting == "coined" and 2 * len(coins) != count_points(pairs))


def meeting_of(house, word, piece):
    """"unmet", "lone", "swept" or "coined"."""
    need_word(house[0], word)
    frame = Frame(house)
    need_piece(frame, piece)
    return Visit(frame, word).manner(piece)[0]


def meetings_of(house, word):
    """The tuple of meeting_of for each piece, in sequence."""
    need_word(house[0], word)
    frame = Frame(house)
    visit = Visit(frame, word)
    return tuple([visit.manner(piece)[0] for piece in range(len(frame.pieces))])


def is_still(house, word):
    """True if the word meets no piece, otherwise False."""
    need_word(house[0], word)
    return Visit(Frame(house), word).met_pieces == []

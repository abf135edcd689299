"""Further words, and the kind of the piece in which they lie."""

from clashborn.coinwork import coins_or_ring
from clashborn.frames import Frame
from clashborn.housechanges import with_word
from clashborn.kinds import is_below
from clashborn.meetings import Visit
from clashborn.pairwalks import kind_at
from clashborn.pieceforms import form_of
from clashborn.piecekinds import kind_of
from clashborn.tiework import piece_at
from clashborn.usable import need, need_further


def is_unpaired(kind):
    """True for the kinds of pieces that have no pairing."""
    return kind in ("strict", "loose")


def kind_with(house, word):
    """The kind of the piece in which word, a further word, lies."""
    wider = with_word(house, word)
    return kind_of(wider, piece_at(wider, len(house[1])))


def keeps_paired(house, word):
    """True if the piece in which word lies is lone or paired, otherwise False."""
    return not is_unpaired(kind_with(house, word))


def tips_house(house, word):
    """True if all pieces that word meets are lone or paired, and the piece in which it lies is neither."""
    if keeps_paired(house, word):
        return False
    frame = Frame(house)
    return not any([is_unpaired(kind_at(frame, piece)) for piece in Visit(frame, word).met_pieces])


def one_pointed(house, piece, word):
    """True if the paired piece has a pairing with at most four points, or the word just one coin on it."""
    frame = Frame(house)
    need(is_below(len(frame.pieces), piece) and kind_at(frame, piece) == "paired", "piece")
    need_further(house, word)
    visit = Visit(frame, word)
    need(piece in visit.met_pieces, "piece")
    form = form_of(frame, piece)
    if form.points <= 4:
        return True
    coins, _ = coins_or_ring(frame, piece, form.pairs, visit.clash_mask)
    return coins is not None and len(coins) == 1

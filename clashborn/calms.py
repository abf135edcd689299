"""Words each two of which are apart."""

from clashborn.bits import word_of
from clashborn.crossed import crossed_codes
from clashborn.frames import Frame
from clashborn.letters import plain_clash
from clashborn.pieceforms import form_of
from clashborn.usable import need_piece


def are_calm(words):
    """True if each two of the words are apart, otherwise False."""
    return not any([plain_clash(words[low], words[high]) for high in range(len(words)) for low in range(high)])


def calm_codes(house, piece):
    """The codes of one word of each crossed pair of the piece's sums, and of the rest."""
    frame = Frame(house)
    need_piece(frame, piece)
    pairs, rest = crossed_codes(frame.places, form_of(frame, piece).basis)
    return [pair[0] for pair in pairs] + rest


def calm_count(house, piece):
    """The dimension of the piece less half its rank."""
    return len(calm_codes(house, piece))


def calm_basis(house, piece):
    """Any tuple of calm_count many independent sums of the piece, each two of which are apart."""
    return tuple([word_of(house[0], code) for code in calm_codes(house, piece)])

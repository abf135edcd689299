"""All that comes of a word, or is made of a piece, gone through."""

from clashborn.bits import code_of, word_of
from clashborn.frames import Frame
from clashborn.making import first_word
from clashborn.toldwalks import whole_walk
from clashborn.usable import need_piece, need_word


def walked_words(frame, word):
    """The ascending tuple of all that comes of word."""
    walk = whole_walk(frame, code_of(word))
    return tuple(sorted([word_of(frame.places, code) for code in walk.came]))


def walked(house, word):
    """The ascending tuple of all that comes of word."""
    need_word(house[0], word)
    return walked_words(Frame(house), word)


def made_walked(house, piece):
    """The ascending tuple of all words made of the piece."""
    frame = Frame(house)
    need_piece(frame, piece)
    return walked_words(frame, first_word(frame, piece))

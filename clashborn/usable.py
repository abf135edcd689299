"""Parameters that must be as stated: each function raises NotUsable with the parameter's name if it is not."""

from clashborn.errors import NotUsable
from clashborn.kinds import is_below, is_blank, is_lot, is_wide_word, is_words


def need(held, name):
    """Raise NotUsable for the parameter with this name, unless held."""
    if not held:
        raise NotUsable(name, -1)


def need_word(places, word):
    """The parameter word must be a word with so many letters."""
    need(is_wide_word(places, word), "word")


def need_other(places, other):
    """The parameter other must be a word with so many letters."""
    need(is_wide_word(places, other), "other")


def need_words(places, words):
    """The parameter words must be a tuple of words with so many letters."""
    need(is_words(places, words), "words")


def need_checks(places, checks):
    """The parameter checks must be a tuple of words with so many letters."""
    need(is_words(places, checks), "checks")


def need_further(house, word):
    """The parameter word must be a further word of the house."""
    need_word(house[0], word)
    need(not is_blank(word) and word not in house[1], "word")


def need_told(house, told):
    """The parameter told must be a told number of the house."""
    need(is_below(len(house[1]), told), "told")


def need_lot(house, lot):
    """The parameter lot must be a lot of the house."""
    need(is_lot(len(house[1]), lot), "lot")


def need_piece(frame, piece):
    """The parameter piece must be the number of a piece of the frame's house."""
    need(is_below(len(frame.pieces), piece), "piece")

"""Checks that are steady: they read the same of all that comes of a word."""

from clashborn.bits import code_of, crossing_none, lot_of, word_of
from clashborn.frames import Frame
from clashborn.joinings import joined_mask
from clashborn.kinds import is_wide_word
from clashborn.usable import need, need_word


def steady_words(frame, words):
    """A basis of the checks that are steady for each of the words."""
    # Steady checks are those that are apart from all told words of all pieces that the words meet.
    swaps = [frame.swaps[told] for told in lot_of(joined_mask(frame, words))]
    return tuple([word_of(frame.places, code) for code in crossing_none(swaps, 2 * frame.places)])


def is_steady(house, word, check):
    """True if the check is steady for the word, otherwise False."""
    need_word(house[0], word)
    need(is_wide_word(house[0], check), "check")
    frame = Frame(house)
    return frame.crossing(code_of(check)) & joined_mask(frame, (word,)) == 0


def steady_basis(house, word):
    """Any basis of the checks that are steady for the word."""
    need_word(house[0], word)
    return steady_words(Frame(house), (word,))

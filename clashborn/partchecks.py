"""Checks that part two words for good."""

from clashborn.bits import code_of, lot_of
from clashborn.comings import parting_word
from clashborn.frames import Frame
from clashborn.joinings import joined_mask
from clashborn.usable import need_other, need_word


def part_check(house, word, other):
    """Any check that is steady for both words and reads them unlike, or None."""
    need_word(house[0], word)
    need_other(house[0], other)
    frame = Frame(house)
    return parting_word(frame, lot_of(joined_mask(frame, (word, other))), code_of(word) ^ code_of(other))

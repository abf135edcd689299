"""Beginnings that can be told apart by what is steady for all of them."""

from clashborn.bits import code_of, lot_of, reduced, span_of
from clashborn.frames import Frame
from clashborn.joinings import joined_mask
from clashborn.steadies import steady_words
from clashborn.usable import need_words


def steady_all(house, words):
    """Any basis of the checks that are steady for each of the words."""
    need_words(house[0], words)
    return steady_words(Frame(house), words)


def parted_words(house, words):
    """The joining of the words in which two are joined if all checks that are steady for all words read them alike."""
    need_words(house[0], words)
    frame = Frame(house)
    # Such checks read a sum of told words of met pieces as 0, and only such a sum is read so by all of them.
    rows = span_of([frame.codes[told] for told in lot_of(joined_mask(frame, words))])[0]
    codes = [code_of(word) for word in words]
    joining = []
    for k, code in enumerate(codes):
        joined = [at for at in range(k) if reduced(rows, code ^ codes[at])[0] == 0]
        joining.append(joined[0] if joined != [] else k)
    return tuple(joining)

"""The checker of ladders."""

from clashborn.bits import code_of, parity, swapped
from clashborn.errors import InvalidPaper
from clashborn.kinds import is_wide_word


def is_sum_above(above, code, swap):
    """True if the code is the sum of two codes above that clash."""
    for one in above:
        # Two words clash exactly if one of them and their sum do.
        if one ^ code in above and parity(one & swap):
            return True
    return False


def lets_ladder(house, thing):
    """How many rows the ladder thing has; InvalidPaper if it is none of the house."""
    if not isinstance(thing, tuple) or thing == ():
        raise InvalidPaper("shape", -1)
    tolds = {word: True for word in house[1]}
    above = {}
    for k, word in enumerate(thing):
        if not is_wide_word(house[0], word):
            raise InvalidPaper("word", k)
        code = code_of(word)
        if word not in tolds and not is_sum_above(above, code, swapped(house[0], code)):
            raise InvalidPaper("made", k)
        above[code] = True
    return len(thing)

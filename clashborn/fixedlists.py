"""Lists of checks, fixed ahead, that do not confuse two rivals."""

from clashborn.bits import crossing_all, swapped, word_of
from clashborn.confusions import confusing_code
from clashborn.errors import InvalidPaper
from clashborn.kinds import is_wide_word
from clashborn.rivalries import need_rivals


def rest_values(rivalry):
    """The list of the values of a basis of the rest."""
    return [rivalry.value(code) for code in rivalry.rest]


def rest_check(rivalry):
    """The code of a check that reads of each sum of the rest its value, and 0 of each word of the crossed pairs."""
    paired = [code for pair in rivalry.crossed_pairs for code in pair]
    swaps = [swapped(rivalry.places, code) for code in paired + rivalry.rest]
    return crossing_all(swaps, [0] * len(paired) + rest_values(rivalry))[0]


def fixed_codes(rivalry):
    """The codes of as few checks as can be that do not confuse the rivals."""
    codes = [code for pair in rivalry.crossed_pairs for code in pair]
    # The pairs see all sums but those of the rest, and of these only those with the value 1 need to be seen.
    if 1 in rest_values(rivalry):
        codes.append(rest_check(rivalry))
    return codes


def fixed_count(house, word, other):
    """The least length of a tuple of checks that do not confuse the rivals."""
    return len(fixed_codes(need_rivals(house, word, other)))


def fixed_checks(house, word, other):
    """Any tuple of fixed_count many checks that do not confuse the rivals."""
    return tuple([word_of(house[0], code) for code in fixed_codes(need_rivals(house, word, other))])


def lets_fixed(house, word, other, thing):
    """The length of thing, a tuple of checks that do not confuse the rivals."""
    rivalry = need_rivals(house, word, other)
    if not isinstance(thing, tuple):
        raise InvalidPaper("shape", -1)
    for k, check in enumerate(thing):
        if not is_wide_word(house[0], check):
            raise InvalidPaper("check", k)
    if confusing_code(rivalry, thing) is not None:
        raise InvalidPaper("confused", -1)
    return len(thing)

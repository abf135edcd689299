"""Houses without one of their words."""

from clashborn.furthers import is_unpaired
from clashborn.housechanges import without_word
from clashborn.piecekinds import kinds_of


def has_unpaired(kinds):
    """True if some of the kinds is "strict" or "loose"."""
    return any([is_unpaired(kind) for kind in kinds])


def strike_kinds(house):
    """For each told number the kinds of all pieces of the house without the word told so."""
    return tuple([kinds_of(without_word(house, told)) for told in range(len(house[1]))])


def pillars_of(house):
    """The lot of the told numbers without whose word no piece is strict or loose; () if none is with all words."""
    if not has_unpaired(kinds_of(house)):
        return ()
    return tuple([told for told, kinds in enumerate(strike_kinds(house)) if not has_unpaired(kinds)])

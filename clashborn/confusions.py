"""Rivals, and checks that confuse them."""

from clashborn.bits import word_of
from clashborn.crossed import crossed_codes
from clashborn.frames import Frame
from clashborn.pieceforms import independent_codes
from clashborn.readings import unseen_codes
from clashborn.rivalries import need_rivals, rivalry_of
from clashborn.usable import need_checks, need_other, need_word


def confusing_code(rivalry, checks):
    """A sum of the piece that the checks do not see and that leads from what comes of one rival to the other's.

    None if there is none, so that the checks do not confuse them.
    """
    for code in unseen_codes(rivalry.places, rivalry.form.basis, checks):
        if rivalry.form.crossing(code) or rivalry.value(code):
            return code
    return None


def value_zero(rivalry, code, base):
    """The base or its sum with the code, whichever has the value 0; base and code clash or base has code's value."""
    return base ^ code if rivalry.value(base) else base


def confused_steps(rivalry, code):
    """Sums with the value 0, of which at least one leads, added to the word, to a word confused by the code."""
    if rivalry.form.crossing(code) == 0:
        return [0]
    pairs, _ = crossed_codes(rivalry.places, independent_codes([code] + rivalry.form.basis))
    # The code clashes with its partner alone, so both the partner and what is apart from them have a free choice.
    start = 0 if rivalry.value(code) else pairs[0][1]
    return [value_zero(rivalry, code, start ^ further) for further in [0] + [pair[0] for pair in pairs[1:2]]]


def are_rivals(house, word, other):
    """True if word and other are rivals, otherwise False."""
    need_word(house[0], word)
    need_other(house[0], other)
    return rivalry_of(Frame(house), word, other) is not None


def confused_by(house, word, other, checks):
    """True if the checks confuse the rivals, otherwise False."""
    rivalry = need_rivals(house, word, other)
    need_checks(house[0], checks)
    return confusing_code(rivalry, checks) is not None


def confused_pair(house, word, other, checks):
    """Any pair of what comes of word and what comes of other that the checks read alike; None if there is none."""
    rivalry = need_rivals(house, word, other)
    need_checks(house[0], checks)
    code = confusing_code(rivalry, checks)
    if code is None:
        return None
    steps = [step for step in confused_steps(rivalry, code) if rivalry.leads(step) and rivalry.leads(step ^ code)]
    one = rivalry.word_code ^ steps[0]
    return (word_of(house[0], one), word_of(house[0], one ^ code))

"""Rivals, and checks that confuse them."""

from clashborn.bits import word_of
from clashborn.crossed import crossed_codes
from clashborn.frames import Frame
from clashborn.pieceforms import independent_codes
from clashborn.readings import unseen_codes
from clashborn.rivalries import need_rivals, rivalry_of
from clashborn.usable import need_checks, need_other, need_word


def confusing_code(rivalry, checks):
    """A sum of the piece that the checks do not see and that leads from what comes of one rival to the other's.

    None if there is none, so that the checks do not confuse them.
    """
    for code in unseen_codes(rivalry.places, rivalry.form.basis, checks):
        if rivalry.form.crossing(code) or rivalry.value(code):
            return code
    return None


def confused_steps(rivalry, code):
    """Sums with the value 0 that get the value 1 by adding the code of confusing_code; at least one of them leads."""
    pairs, _ = crossed_codes(rivalry.places, independent_codes([code] + rivalry.form.basis))
    # A code with the value 0 changes the value of just those sums that clash with it, as its partner does.
    start = 0 if rivalry.value(code) else pairs[0][1]
    # If the first sum does not lead, one that differs from it by what is apart from the code and its partner does.
    sums = [start] + [start ^ pair[0] for pair in pairs[1:2]]
    return [step ^ code if rivalry.value(step) else step for step in sums]


def are_rivals(house, word, other):
    """True if word and other are rivals, otherwise False."""
    need_word(house[0], word)
    need_other(house[0], other)
    return rivalry_of(Frame(house), word, other) is not None


def confused_by(house, word, other, checks):
    """True if the checks confuse the rivals, otherwise False."""
    rivalry = need_rivals(house, word, other)
    need_checks(house[0], checks)
    return confusing_code(rivalry, checks) is not None


def confused_pair(house, word, other, checks):
    """Any pair of what comes of word and what comes of other that the checks read alike; None if there is none."""
    rivalry = need_rivals(house, word, other)
    need_checks(house[0], checks)
    code = confusing_code(rivalry, checks)
    if code is None:
        return None
    steps = [step for step in confused_steps(rivalry, code) if rivalry.leads(step) and rivalry.leads(step ^ code)]
    one = rivalry.word_code ^ steps[0]
    return (word_of(house[0], one), word_of(house[0], one ^ code))

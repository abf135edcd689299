"""Plans gone through: the place that a word has by a plan, and what is told of it there."""

from clashborn.kinds import is_wide_word
from clashborn.readings import reading_of
from clashborn.usable import need


def need_read_word(plan, word):
    """The parameter word must have as many letters as the checks of the plan."""
    # A plan without first checks has a pair all the same.
    need(is_wide_word(len(plan[1][0][0]), word), "word")


def place_by(plan, word):
    """The place in the last part of the plan that the readings of word by the first part give."""
    need_read_word(plan, word)
    place = 0
    for check in plan[0]:
        place = place * 2 + reading_of(check, word)
    return place


def told_by(plan, word):
    """What the plan tells of word: "word" or "other"."""
    check, reading = plan[1][place_by(plan, word)]
    return "word" if reading_of(check, word) == reading else "other"


def plan_checks(plan, word):
    """The tuple of the checks that are read of word, in sequence."""
    return plan[0] + (plan[1][place_by(plan, word)][0],)

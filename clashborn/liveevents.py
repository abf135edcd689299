"""Events of a live house."""

from clashborn.kinds import is_number, is_pair, is_word, starts_with

WORD_EVENTS = ("tell", "hold", "jump")
TOLD_EVENTS = ("strike", "turn")


def is_event_word(thing):
    """True if thing is a word of one to sixty letters."""
    return is_word(thing) and len(thing) <= 60


def is_event(thing):
    """True if thing is an event, otherwise False."""
    if starts_with("drop", thing):
        return len(thing) == 1
    if not is_pair(thing):
        return False
    if thing[0] in WORD_EVENTS:
        return is_event_word(thing[1])
    return thing[0] in TOLD_EVENTS and is_number(thing[1])


def is_log(thing):
    """True if thing is a tuple of events, otherwise False."""
    return isinstance(thing, tuple) and all([is_event(entry) for entry in thing])

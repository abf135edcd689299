"""Events done at a house with a held word, one by one."""

from clashborn.errors import InvalidEvent
from clashborn.housechanges import with_word, without_word
from clashborn.kinds import is_blank, is_wide_word
from clashborn.letters import plain_clash
from clashborn.liveevents import TOLD_EVENTS, WORD_EVENTS, is_event
from clashborn.making import is_made
from clashborn.turning import turn_once
from clashborn.usable import need


def need_held(house, held):
    """The parameter held must be a word with as many letters as the house has places, or None."""
    need(held is None or is_wide_word(house[0], held), "held")


def entry_reason(house, event):
    """The first reason against what an event names, or None."""
    if event[0] in WORD_EVENTS and len(event[1]) != house[0]:
        return "letters"
    if event[0] == "tell" and is_blank(event[1]):
        return "blank"
    if event[0] == "tell" and event[1] in house[1]:
        return "again"
    if event[0] in TOLD_EVENTS and event[1] >= len(house[1]):
        return "told"
    return None


def turning_word(house, event):
    """The word by which a "turn" or a "jump" turns."""
    return house[1][event[1]] if event[0] == "turn" else event[1]


def held_reason(house, held, event):
    """The first reason against an event that names what it may, for what is held; None if there is none."""
    if event[0] in ("turn", "jump", "drop") and held is None:
        return "held"
    if event[0] == "jump" and not is_made(house, event[1]):
        return "unmade"
    if event[0] in ("turn", "jump") and not plain_clash(held, turning_word(house, event)):
        return "idle"
    return None


def reason_in(house, held, event):
    """As reason_of, when held is as stated."""
    if not is_event(event):
        return "shape"
    reason = entry_reason(house, event)
    return held_reason(house, held, event) if reason is None else reason


def step_in(house, held, event):
    """The pair (house, held) after an event that is let."""
    if event[0] == "tell":
        return (with_word(house, event[1]), held)
    if event[0] == "strike":
        return (without_word(house, event[1]), held)
    if event[0] == "hold":
        return (house, event[1])
    if event[0] == "drop":
        return (house, None)
    return (house, turn_once(held, turning_word(house, event)))


def reason_of(house, held, event):
    """None if the event is let, otherwise the first reason against it."""
    need_held(house, held)
    return reason_in(house, held, event)


def step_of(house, held, event):
    """The pair (house, held) after the event; InvalidEvent if it is not let."""
    need_held(house, held)
    reason = reason_in(house, held, event)
    if reason is not None:
        raise InvalidEvent(event, reason)
    return step_in(house, held, event)

"""Lines said to a live house, and what it answers."""

from clashborn.errors import Refused
from clashborn.eventtexts import read_fields
from clashborn.liveevents import WORD_EVENTS, is_event
from clashborn.usable import need
from clashborn.wordtexts import house_line

WORD_LINES = ("made", "comes", "fewest")
BARE_LINES = ("drop", "many", "kinds", "held", "house")


def yes_or_no(held):
    """The word for it."""
    return "yes" if held else "no"


def fewest_line(live, word):
    """The fewest turns in figures, or "no" if the word does not come."""
    try:
        turns = live.fewest(word)
    except Refused:
        return "no"
    return str(turns)


def word_answer(live, name, word):
    """The answer to a line with a word."""
    if name == "made":
        return yes_or_no(live.made(word))
    if name == "comes":
        return yes_or_no(live.comes(word))
    return fewest_line(live, word)


def bare_answer(live, name):
    """The answer to a line without a word."""
    if name == "many":
        return str(live.many())
    if name == "kinds":
        kinds = live.kinds()
        return " ".join(kinds) if kinds != () else "-"
    if name == "held":
        held = live.held_now()
        return held if held is not None else "-"
    return house_line(live.house_now())


def desk_line(live, text):
    """Do the event of the line and return "done", or return the answer to any other line."""
    need(isinstance(text, str), "text")
    entries = read_fields(0, text, WORD_EVENTS + WORD_LINES, BARE_LINES)
    if is_event(entries):
        live.go(entries)
        return "done"
    if len(entries) == 2:
        return word_answer(live, entries[0], entries[1])
    return bare_answer(live, entries[0])

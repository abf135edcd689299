"""Events and logs as lines of text."""

from clashborn.errors import InvalidText
from clashborn.liveevents import TOLD_EVENTS, WORD_EVENTS, is_event_word
from clashborn.usable import need
from clashborn.wordreadings import is_figures


def read_fields(line, text, word_names, bare_names):
    """The entries of a line: a name alone, or a name and a word, or of an event a name and a told number.

    InvalidText with the number of the line and its first field that can not stand, or how many it has if it ends too
    soon; in a line of two fields, both come to 1.
    """
    fields = text.split(" ")
    name = fields[0]
    if name not in bare_names and name not in word_names and name not in TOLD_EVENTS:
        raise InvalidText(line, 0)
    if name in bare_names:
        entries = (name,)
    elif len(fields) > 1 and name in word_names and is_event_word(fields[1]):
        entries = (name, fields[1])
    elif len(fields) > 1 and name in TOLD_EVENTS and is_figures(fields[1]):
        entries = (name, int(fields[1]))
    else:
        raise InvalidText(line, 1)
    if len(fields) > len(entries):
        raise InvalidText(line, len(entries))
    return entries


def read_line(line, text):
    """The event of the line with this number."""
    return read_fields(line, text, WORD_EVENTS, ("drop",))


def event_line(event):
    """The entries of the event, parted by a blank."""
    return " ".join([str(entry) for entry in event])


def log_text(log):
    """The lines of the events, parted by newlines."""
    return "\n".join([event_line(event) for event in log])


def read_event(text):
    """The event whose line text is."""
    need(isinstance(text, str), "text")
    return read_line(0, text)


def read_log(text):
    """The log whose text this is; () for the empty one."""
    need(isinstance(text, str), "text")
    if text == "":
        return ()
    return tuple([read_line(at, line) for at, line in enumerate(text.split("\n"))])

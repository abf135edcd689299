"""Words and houses, read from lines of text."""

from clashborn.errors import InvalidText
from clashborn.kinds import is_blank, is_wide_word
from clashborn.letters import blank_of
from clashborn.usable import need


def is_figures(text):
    """True if the text is a number in figures alone, without a 0 ahead of other ones."""
    if not text.isascii() or not text.isdigit():
        return False
    return text == "0" or text[0] != "0"


def is_short_field(places, field, lowest):
    """True if the field is X, Y or Z and a place of at least lowest."""
    if field[:1] not in ("X", "Y", "Z") or not is_figures(field[1:]):
        return False
    return lowest <= int(field[1:]) < places


def read_short(places, text):
    """The word with so many letters whose short line is text."""
    need(isinstance(text, str), "text")
    fields = text.split(" ")
    if fields == ["-"]:
        return blank_of(places)
    # A "-" that has something behind it can stand, and what is behind it can not.
    if fields[0] == "-":
        raise InvalidText(0, 1)
    letters = list(blank_of(places))
    lowest = 0
    for at, field in enumerate(fields):
        if not is_short_field(places, field, lowest):
            raise InvalidText(0, at)
        place = int(field[1:])
        letters[place] = field[0]
        lowest = place + 1
    return "".join(letters)


def read_house(text):
    """The house whose line text is."""
    need(isinstance(text, str), "text")
    fields = text.split(" ")
    head = fields[0]
    if not head.endswith(";") or not is_figures(head[:-1]) or head == "0;":
        raise InvalidText(0, 0)
    places = int(head[:-1])
    seen = {}
    for at, field in enumerate(fields[1:]):
        if not is_wide_word(places, field) or is_blank(field) or field in seen:
            raise InvalidText(0, at + 1)
        seen[field] = True
    return (places, tuple(fields[1:]))

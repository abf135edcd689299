"""Words with their letters moved, renamed or put beside others."""

from clashborn.kinds import is_below, is_order, is_word
from clashborn.usable import need


def moved_letters(word, order):
    """The word with the letter at place i at the place order[i]."""
    letters = list(word)
    for k, letter in enumerate(word):
        letters[order[k]] = letter
    return "".join(letters)


def is_recasting(thing):
    """True if thing is a string of X, Y and Z, each once."""
    return isinstance(thing, str) and sorted(thing) == ["X", "Y", "Z"]


def recast_letter(word, place, turned_to):
    """The word with the letter at the place renamed: X, Y, Z become the letters of turned_to."""
    at = "XYZ".find(word[place])
    if at < 0:
        return word
    return word[:place] + turned_to[at] + word[place + 1:]


def moved(word, order):
    """The word with the letter at place i at the place order[i]."""
    need(is_order(len(word), order), "order")
    return moved_letters(word, order)


def recast(word, place, turned_to):
    """The word with the letter at the place renamed: X, Y, Z become the letters of turned_to."""
    need(is_below(len(word), place), "place")
    need(is_recasting(turned_to), "turned_to")
    return recast_letter(word, place, turned_to)


def beside(one, other):
    """The letters of one word, then those of the other, any word."""
    need(is_word(other), "other")
    return one + other

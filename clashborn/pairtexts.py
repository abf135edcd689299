"""Pairs as lines of text."""

from clashborn.errors import InvalidText
from clashborn.usable import need
from clashborn.wordreadings import is_figures


def pairs_line(pairs):
    """The pairs as a line, each as its lesser number, a - and its greater one."""
    return " ".join([f"{low}-{high}" for low, high in pairs])


def pair_in(field):
    """The pair of a field, or None."""
    numbers = field.split("-")
    if len(numbers) != 2 or not is_figures(numbers[0]) or not is_figures(numbers[1]):
        return None
    pair = (int(numbers[0]), int(numbers[1]))
    if pair[0] >= pair[1]:
        return None
    return pair


def read_pairs(text):
    """The pairs of a line."""
    need(isinstance(text, str), "text")
    pairs = []
    for at, field in enumerate(text.split(" ")):
        pair = pair_in(field)
        if pair is None:
            raise InvalidText(0, at)
        pairs.append(pair)
    return tuple(pairs)

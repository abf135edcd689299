"""Words letter by letter: their sums, and whether they clash."""

from clashborn.bits import code_of, word_of
from clashborn.usable import need_other, need_words


def blank_of(places):
    """The blank word with so many letters."""
    return "I" * places


def clash_at(one, other):
    """1 if the two letters are unlike and neither is I, otherwise 0."""
    if one == "I" or other == "I" or one == other:
        return 0
    return 1


def plain_clash(one, other):
    """True if two words with as many letters clash."""
    return sum([clash_at(mine, yours) for mine, yours in zip(one, other)]) % 2 == 1


def plain_sum(places, words):
    """The sum of words that have so many letters."""
    total = 0
    for word in words:
        total = total ^ code_of(word)
    return word_of(places, total)


def added(one, other):
    """The sum of both words."""
    need_other(len(one), other)
    return plain_sum(len(one), (one, other))


def sum_of(places, words):
    """The sum of all words; the blank word for ()."""
    need_words(places, words)
    return plain_sum(places, words)


def clashes(one, other):
    """True if both words clash, otherwise False."""
    need_other(len(one), other)
    return plain_clash(one, other)


def ys_of(word):
    """How many letters of the word are Y."""
    return word.count("Y")


def width_of(word):
    """How many letters of the word are not I."""
    return len(word) - word.count("I")

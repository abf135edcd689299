"""Turns: a word becomes its sum with a word that it clashes with."""

from clashborn.kinds import is_numbers_below, is_wide_word
from clashborn.letters import plain_clash, plain_sum
from clashborn.usable import need, need_word, need_words


def turn_once(word, by):
    """The word, turned by a word with as many letters."""
    if plain_clash(word, by):
        return plain_sum(len(word), (word, by))
    return word


def turn_steps(word, words):
    """The list of the word and of what it is behind each turn by words, one after the other."""
    steps = [word]
    for by in words:
        steps.append(turn_once(steps[-1], by))
    return steps


def turned(word, by):
    """The word, turned by the word by."""
    need(is_wide_word(len(word), by), "by")
    return turn_once(word, by)


def turned_along(word, words):
    """The word, turned by each of words, one after the other."""
    need_words(len(word), words)
    return turn_steps(word, words)[-1]


def told_walk(house, word, tolds):
    """The word, then what it is behind each turn by the told words with these numbers."""
    need_word(house[0], word)
    need(is_numbers_below(len(house[1]), tolds), "tolds")
    return tuple(turn_steps(word, [house[1][told] for told in tolds]))

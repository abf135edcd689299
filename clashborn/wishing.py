"""Words that clash as wished, and papers why there are none."""

from clashborn.bits import code_of, crossing_all, lot_of, swapped, word_of
from clashborn.errors import InvalidPaper, Odd
from clashborn.kinds import is_blank, is_lot, is_numbers_below, is_pair, is_wide_word
from clashborn.letters import plain_clash, plain_sum
from clashborn.usable import need, need_words


def is_wishes(many, thing):
    """True if thing is a tuple of so many numbers 0 and 1."""
    return is_numbers_below(2, thing) and len(thing) == many


def wish_found(places, words, wishes):
    """A pair (word, lot), just one of them not None: a word as wished, or an odd lot against it."""
    swaps = [swapped(places, code_of(word)) for word in words]
    code, mask = crossing_all(swaps, wishes)
    if code is None:
        return None, lot_of(mask)
    return word_of(places, code), None


def need_wishes(places, words, wishes):
    """Both parameters must be as stated."""
    need_words(places, words)
    need(is_wishes(len(words), wishes), "wishes")


def word_by(places, words, wishes):
    """Any word that clashes with just those of words that have the wish 1; Odd if there is none."""
    need_wishes(places, words, wishes)
    word, lot = wish_found(places, words, wishes)
    if word is None:
        raise Odd(lot)
    return word


def wish_paper(places, words, wishes):
    """("word", word) with a word as wished, or ("odd", lot) with a lot that shows that there is none."""
    need_wishes(places, words, wishes)
    word, lot = wish_found(places, words, wishes)
    if word is None:
        return ("odd", lot)
    return ("word", word)


def check_word(places, words, wishes, word):
    """Raise InvalidPaper unless the word clashes as wished."""
    if not is_wide_word(places, word):
        raise InvalidPaper("word", -1)
    for k, told_word in enumerate(words):
        if plain_clash(word, told_word) != (wishes[k] == 1):
            raise InvalidPaper("clash", k)


def check_odd(places, words, wishes, lot):
    """Raise InvalidPaper unless the lot shows that no word clashes as wished."""
    if not is_lot(len(words), lot):
        raise InvalidPaper("lot", -1)
    if not is_blank(plain_sum(places, [words[k] for k in lot])):
        raise InvalidPaper("sum", -1)
    if sum([wishes[k] for k in lot]) % 2 == 0:
        raise InvalidPaper("even", -1)


def lets_wishes(places, words, wishes, thing):
    """True for a paper with a word, False for one with a lot."""
    need_wishes(places, words, wishes)
    if not is_pair(thing) or (thing[0] != "word" and thing[0] != "odd"):
        raise InvalidPaper("shape", -1)
    if thing[0] == "word":
        check_word(places, words, wishes, thing[1])
        return True
    check_odd(places, words, wishes, thing[1])
    return False

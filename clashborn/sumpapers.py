"""Whether a word is a sum of words, papers of it, and relations."""

from clashborn.bits import code_of, crossing_all, lot_of, lot_with_sum, span_of, swapped, word_of
from clashborn.errors import InvalidPaper
from clashborn.kinds import is_lot, is_pair, is_wide_word
from clashborn.letters import plain_clash, plain_sum
from clashborn.usable import need_word, need_words


def sum_mask(words, word):
    """The mask of places in words whose words add up to word, or None."""
    return lot_with_sum([code_of(told_word) for told_word in words], code_of(word))


def parting_check(places, words, word):
    """Any check that is apart from words and clashes with word, which is no sum of them."""
    swaps = [swapped(places, code_of(told_word)) for told_word in words] + [swapped(places, code_of(word))]
    code, _ = crossing_all(swaps, [0] * len(words) + [1])
    return word_of(places, code)


def is_sum(places, words, word):
    """True if the word is a sum of words, otherwise False."""
    need_words(places, words)
    need_word(places, word)
    return sum_mask(words, word) is not None


def sum_paper(places, words, word):
    """("lot", lot) if the word is the sum of a lot, otherwise ("apart", check)."""
    need_words(places, words)
    need_word(places, word)
    mask = sum_mask(words, word)
    if mask is None:
        return ("apart", parting_check(places, words, word))
    return ("lot", lot_of(mask))


def check_lot(places, words, word, lot):
    """Raise InvalidPaper unless the lot has this sum."""
    if not is_lot(len(words), lot):
        raise InvalidPaper("lot", -1)
    if plain_sum(places, [words[k] for k in lot]) != word:
        raise InvalidPaper("sum", -1)


def check_apart(places, words, word, check):
    """Raise InvalidPaper unless the check is apart from words and clashes with the word."""
    if not is_wide_word(places, check):
        raise InvalidPaper("check", -1)
    for k, told_word in enumerate(words):
        if plain_clash(check, told_word):
            raise InvalidPaper("clash", k)
    if not plain_clash(check, word):
        raise InvalidPaper("apart", -1)


def lets_sum(places, words, word, thing):
    """True for a paper with a lot, False for one with a check."""
    need_words(places, words)
    need_word(places, word)
    if not is_pair(thing) or (thing[0] != "lot" and thing[0] != "apart"):
        raise InvalidPaper("shape", -1)
    if thing[0] == "lot":
        check_lot(places, words, word, thing[1])
        return True
    check_apart(places, words, word, thing[1])
    return False


def relation_basis(house):
    """Any independent tuple of relations to which all relations of the house add up."""
    masks = span_of([code_of(word) for word in house[1]])[2]
    return tuple([lot_of(mask) for mask in masks])

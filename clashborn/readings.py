"""What checks read of words, and what they do not see."""

from clashborn.bits import code_of, crossing_mask, crossing_none, mask_sum, swapped, word_of
from clashborn.letters import plain_clash
from clashborn.pieceforms import independent_codes
from clashborn.usable import need_checks, need_words


def reading_of(check, word):
    """1 if the check and the word clash, otherwise 0."""
    return 1 if plain_clash(check, word) else 0


def unseen_codes(places, basis, checks):
    """A basis of those sums of a basis of codes that are apart from all checks."""
    swaps = [swapped(places, code) for code in basis]
    rows = [crossing_mask(code_of(check), swaps) for check in checks]
    return [mask_sum(basis, mask) for mask in crossing_none(rows, len(basis))]


def read_by(word, checks):
    """The tuple of what the checks read of the word."""
    need_checks(len(word), checks)
    return tuple([reading_of(check, word) for check in checks])


def unseen_basis(places, words, checks):
    """Any basis of those sums of words that are apart from all checks."""
    need_words(places, words)
    need_checks(places, checks)
    basis = independent_codes([code_of(word) for word in words])
    return tuple([word_of(places, code) for code in unseen_codes(places, basis, checks)])

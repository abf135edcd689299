"""Dimension, bases, rest and rank of words."""

from clashborn.bits import code_of, crossing_mask, crossing_none, mask_sum, span_of, swapped, word_of
from clashborn.usable import need_words


def rest_codes(places, codes):
    """A basis of those sums of the codes that are apart from all of them."""
    basis = [codes[k] for k in span_of(codes)[1]]
    swaps = [swapped(places, code) for code in basis]
    # A sum of basis words is apart from all exactly if the rows of what these clash with add up to nothing.
    crossings = [crossing_mask(code, swaps) for code in basis]
    return [mask_sum(basis, mask) for mask in span_of(crossings)[2]]


def first_places(places, words):
    """The list of the places at which no sum of the words before stands."""
    need_words(places, words)
    return span_of([code_of(word) for word in words])[1]


def dimension_of(places, words):
    """The dimension of the words."""
    return len(first_places(places, words))


def are_independent(places, words):
    """True if the words are independent, otherwise False."""
    return len(first_places(places, words)) == len(words)


def first_basis(places, words):
    """The lot of those places in words at which stands no sum of the words before."""
    return tuple(first_places(places, words))


def apart_basis(places, words):
    """Any basis of the words, with so many letters, that are apart from all of words."""
    need_words(places, words)
    swaps = [swapped(places, code_of(word)) for word in words]
    return tuple([word_of(places, code) for code in crossing_none(swaps, 2 * places)])


def rest_basis(places, words):
    """Any basis of the rest of the words."""
    need_words(places, words)
    codes = [code_of(word) for word in words]
    return tuple([word_of(places, code) for code in rest_codes(places, codes)])


def rank_of(places, words):
    """The rank of the words."""
    need_words(places, words)
    codes = [code_of(word) for word in words]
    return len(span_of(codes)[1]) - len(rest_codes(places, codes))

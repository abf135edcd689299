"""Crossed bases: pairs that clash, apart from each other, and a rest."""

from clashborn.bits import code_of, parity, reduced, span_of, swapped, word_of
from clashborn.errors import InvalidPaper
from clashborn.kinds import is_pair, is_wide_word
from clashborn.letters import plain_clash
from clashborn.spans import rank_of
from clashborn.usable import need_words


def parted_from(code, one, other, swaps):
    """The code with one and other, which clash and have these swaps, added so that it is apart from both."""
    parted = code
    if parity(code & swaps[1]):
        parted = parted ^ one
    if parity(code & swaps[0]):
        parted = parted ^ other
    return parted


def crossed_codes(places, codes):
    """A crossed basis of independent codes: a list of pairs and a list of the rest."""
    left = list(codes)
    pairs = []
    rest = []
    while left:
        one = left.pop(0)
        swap = swapped(places, one)
        clashing = [code for code in left if parity(code & swap)]
        if clashing == []:
            rest.append(one)
        else:
            other = clashing[0]
            pairs.append((one, other))
            swaps = (swap, swapped(places, other))
            left = [parted_from(code, one, other, swaps) for code in left if code != other]
    return pairs, rest


def crossed_basis(places, words):
    """Any crossed basis (pairs, rest) of the words."""
    need_words(places, words)
    codes = [code_of(word) for word in words]
    pairs, rest = crossed_codes(places, [codes[k] for k in span_of(codes)[1]])
    pairs_told = [(word_of(places, one), word_of(places, other)) for one, other in pairs]
    return (tuple(pairs_told), tuple([word_of(places, code) for code in rest]))


def is_sum_by(rows, places, thing):
    """True if thing is a word with so many letters whose code is a sum of the rows."""
    return is_wide_word(places, thing) and reduced(rows, code_of(thing))[0] == 0


def check_pairs(rows, places, pairs):
    """Raise InvalidPaper unless pairs are pairs of sums that clash, apart from those before."""
    before = []
    for k, pair in enumerate(pairs):
        if not is_pair(pair) or not all([is_sum_by(rows, places, word) for word in pair]):
            raise InvalidPaper("pair", k)
        if not plain_clash(pair[0], pair[1]):
            raise InvalidPaper("clash", k)
        if any([plain_clash(word, early) for word in pair for early in before]):
            raise InvalidPaper("apart", k)
        before.extend(list(pair))


def check_rest(rows, places, words, rest):
    """Raise InvalidPaper unless the rest are sums apart from all words."""
    for k, word in enumerate(rest):
        if not is_sum_by(rows, places, word) or any([plain_clash(word, other) for other in words]):
            raise InvalidPaper("rest", k)


def lets_crossed(places, words, thing):
    """The rank of the words, if thing is a crossed basis of them."""
    need_words(places, words)
    if not is_pair(thing) or not isinstance(thing[0], tuple) or not isinstance(thing[1], tuple):
        raise InvalidPaper("shape", -1)
    pairs, rest = thing
    rows, firsts, _ = span_of([code_of(word) for word in words])
    check_pairs(rows, places, pairs)
    check_rest(rows, places, words, rest)
    codes = [code_of(word) for pair in pairs for word in pair] + [code_of(word) for word in rest]
    if len(codes) != len(firsts) or len(span_of(codes)[1]) != len(firsts):
        raise InvalidPaper("basis", -1)
    return rank_of(places, words)

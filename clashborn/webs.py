"""Pairs of numbers below some number, as ties of lamps or streets between points: the shape that both have."""

from clashborn.errors import NotUsable
from clashborn.kinds import is_below, is_integer, is_number_pair, is_pair


def is_web(thing):
    """True if thing is a pair: an integer of at least 1, and an ascending tuple of pairs of numbers below it."""
    if not is_pair(thing):
        return False
    many, pairs = thing
    if not is_integer(many) or many < 1 or not isinstance(pairs, tuple):
        return False
    if not all([is_number_pair(pair) and pair[1] < many for pair in pairs]):
        return False
    return all([pairs[k - 1] < pairs[k] for k in range(1, len(pairs))])


def web_of(many, pairs, name):
    """The web with these pairs, in any sequence and either way; NotUsable with the parameter's name if one is none."""
    seen = {}
    for k, pair in enumerate(pairs):
        if not is_pair(pair) or not all([is_below(many, end) for end in pair]) or pair[0] == pair[1]:
            raise NotUsable(name, k)
        ends = (min(pair), max(pair))
        if ends in seen:
            raise NotUsable(name, k)
        seen[ends] = True
    return (many, tuple(sorted(list(seen))))


def near_masks(web):
    """For each number the mask of those with which it is paired."""
    masks = [0] * web[0]
    for one, other in web[1]:
        masks[one] = masks[one] ^ (1 << other)
        masks[other] = masks[other] ^ (1 << one)
    return masks

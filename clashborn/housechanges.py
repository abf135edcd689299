"""Houses made of words and of other houses."""

from clashborn.errors import NotUsable
from clashborn.kinds import is_below, is_house, is_order, words_fault
from clashborn.letters import blank_of
from clashborn.usable import need, need_further, need_lot, need_told
from clashborn.wordchanges import is_recasting, moved_letters, recast_letter


def house_of(places, *words):
    """The house (places, words)."""
    fault = words_fault(places, words)
    if fault is not None:
        raise NotUsable("words", fault[1])
    return (places, words)


def with_word(house, word):
    """The house with a further word told last."""
    need_further(house, word)
    return (house[0], house[1] + (word,))


def without_word(house, told):
    """The house without the word told so."""
    need_told(house, told)
    return (house[0], house[1][:told] + house[1][told + 1:])


def kept_words(house, lot):
    """The house with the words of the lot alone."""
    need_lot(house, lot)
    return (house[0], tuple([house[1][k] for k in lot]))


def reordered(house, order):
    """The house with the word told k told order[k]."""
    need(is_order(len(house[1]), order), "order")
    words = list(house[1])
    for k, word in enumerate(house[1]):
        words[order[k]] = word
    return (house[0], tuple(words))


def moved_house(house, order):
    """The house with the letters of each told word moved."""
    need(is_order(house[0], order), "order")
    return (house[0], tuple([moved_letters(word, order) for word in house[1]]))


def recast_house(house, place, turned_to):
    """The house with the letter of each told word at the place renamed."""
    need(is_below(house[0], place), "place")
    need(is_recasting(turned_to), "turned_to")
    return (house[0], tuple([recast_letter(word, place, turned_to) for word in house[1]]))


def beside_house(house, other):
    """The house with the words of both, those of the other on places behind those of the first."""
    need(is_house(other), "other")
    ahead = blank_of(house[0])
    behind = blank_of(other[0])
    words = [word + behind for word in house[1]] + [ahead + word for word in other[1]]
    return (house[0] + other[0], tuple(words))

"""How many words come of a word by so many turns, and not by fewer."""

from clashborn.bits import code_of
from clashborn.fewest import turns_at
from clashborn.frames import Frame
from clashborn.meetings import Visit
from clashborn.pieceforms import form_of
from clashborn.toldwalks import ToldWalk, whole_walk
from clashborn.usable import need_word


def told_spread(house, word):
    """At k, how many words come of word by k turns by told words, and not by fewer."""
    need_word(house[0], word)
    walk = whole_walk(Frame(house), code_of(word))
    return tuple([len(level) for level in walk.levels])


def walk_masks(walk):
    """For each code of a whole walk the mask of the told words that turned to it an odd number of times."""
    masks = {walk.levels[0][0]: 0}
    for level in walk.levels[1:]:
        for code in level:
            before, told = walk.came[code]
            masks[code] = masks[before] ^ (1 << told)
    return masks


def turns_of_piece(visit, form):
    """For each code that turns by words made of the piece add to the word, how many turns do so at least."""
    walk = ToldWalk(visit.frame, [visit.word_code], form.mask)
    walk.grow_whole()
    masks = walk_masks(walk)
    # Turns by told words lead along lots that are let.
    return {visit.word_code ^ code: turns_at(visit, form, masks[code]) for code in masks}


def turns_joined(one, other):
    """For each sum of a code of one and a code of other the fewest turns of both together."""
    joined = {}
    for mine in one:
        for yours in other:
            turns = one[mine] + other[yours]
            if joined.get(mine ^ yours, turns) >= turns:
                joined[mine ^ yours] = turns
    return joined


def made_spread(house, word):
    """At k, how many words come of word by k turns by made words, and not by fewer."""
    need_word(house[0], word)
    frame = Frame(house)
    visit = Visit(frame, word)
    # Turns by words of unlike pieces do not change each other, so they can be counted piece by piece.
    fewest = {0: 0}
    for piece in visit.met_pieces:
        fewest = turns_joined(fewest, turns_of_piece(visit, form_of(frame, piece)))
    counts = [0] * (max([fewest[code] for code in fewest]) + 1)
    for code in fewest:
        counts[fewest[code]] = counts[fewest[code]] + 1
    return tuple(counts)

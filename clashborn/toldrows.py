"""Rows of told numbers that lead from a word to a word."""

from clashborn.bits import code_of
from clashborn.comings import verdict_of
from clashborn.errors import InvalidPaper, Refused
from clashborn.frames import Frame
from clashborn.kinds import is_below
from clashborn.letters import plain_clash, plain_sum
from clashborn.toldwalks import walk_from
from clashborn.usable import need_other, need_word


def told_row(house, word, other):
    """Any tuple of told numbers, as short as can be, that leads from word to other; Refused if other does not come."""
    need_word(house[0], word)
    need_other(house[0], other)
    frame = Frame(house)
    verdict = verdict_of(frame, word, other)
    if verdict[0] != "lot":
        raise Refused(verdict)
    goal = code_of(other)
    walk = walk_from(frame, code_of(word))
    while goal not in walk.came:
        walk.grow()
    return tuple(walk.row_to(goal))


def lets_told_row(house, word, other, thing):
    """How many told numbers the row thing, which leads from word to other, has."""
    need_word(house[0], word)
    need_other(house[0], other)
    if not isinstance(thing, tuple):
        raise InvalidPaper("shape", -1)
    here = word
    for k, told in enumerate(thing):
        if not is_below(len(house[1]), told):
            raise InvalidPaper("told", k)
        if not plain_clash(house[1][told], here):
            raise InvalidPaper("idle", k)
        here = plain_sum(house[0], (house[1][told], here))
    if here != other:
        raise InvalidPaper("end", -1)
    return len(thing)

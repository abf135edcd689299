"""Papers of whether a house makes all words that another one makes."""

from clashborn.bits import code_of
from clashborn.climbing import ladder_words
from clashborn.comparing import need_like_house, unmade_told
from clashborn.errors import InvalidPaper
from clashborn.frames import Frame
from clashborn.kindpapers import is_ladder
from clashborn.kinds import is_below, starts_with
from clashborn.making import is_unmade_paper, maker_in, refusals_in


def within_paper(house, other):
    """("within", ladders) if other makes each word that house makes, otherwise ("not", told, refusals)."""
    need_like_house(house, other)
    frame = Frame(other)
    told = unmade_told(house, frame)
    if told is not None:
        return ("not", told, refusals_in(frame, code_of(house[1][told])))
    codes = [code_of(word) for word in house[1]]
    return ("within", tuple([ladder_words(frame, maker_in(frame, code), code) for code in codes]))


def check_ladders(house, other, ladders):
    """Raise InvalidPaper unless ladders has, for each told word of house, a ladder of other that ends in it."""
    if not isinstance(ladders, tuple) or len(ladders) != len(house[1]):
        raise InvalidPaper("many", -1)
    for told, ladder in enumerate(ladders):
        if not is_ladder(other, ladder):
            raise InvalidPaper("ladder", told)
        if ladder[-1] != house[1][told]:
            raise InvalidPaper("last", told)


def check_not(house, other, told, refusals):
    """Raise InvalidPaper unless refusals show that other does not make the word told of house."""
    if not is_below(len(house[1]), told):
        raise InvalidPaper("told", -1)
    if not is_unmade_paper(Frame(other), house[1][told], refusals):
        raise InvalidPaper("refusals", -1)


def lets_within(house, other, thing):
    """True for a paper with "within", False for one with "not"."""
    need_like_house(house, other)
    if starts_with("within", thing) and len(thing) == 2:
        check_ladders(house, other, thing[1])
        return True
    if not starts_with("not", thing) or len(thing) != 3:
        raise InvalidPaper("shape", -1)
    check_not(house, other, thing[1], thing[2])
    return False

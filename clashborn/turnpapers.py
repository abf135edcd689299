"""Papers of turns: a ladder, and the rows that lead from a word to a word."""

from clashborn.bits import word_of
from clashborn.climbing import ladder_words
from clashborn.errors import InvalidPaper
from clashborn.frames import Frame
from clashborn.kindpapers import is_ladder
from clashborn.kinds import is_below, starts_with
from clashborn.laddertools import rows_joined
from clashborn.letters import plain_clash, plain_sum
from clashborn.making import maker_in
from clashborn.turnwords import turns_in
from clashborn.usable import need_other, need_word


def turn_paper(house, word, other):
    """("turns", ladder, rows) with rows that lead from word to other in the fewest turns."""
    need_word(house[0], word)
    need_other(house[0], other)
    frame = Frame(house)
    turns = turns_in(frame, word, other)
    ladder = ()
    for code in turns:
        ladder = rows_joined(ladder, ladder_words(frame, maker_in(frame, code), code))
    return ("turns", ladder, tuple([ladder.index(word_of(house[0], code)) for code in turns]))


def check_rows(word, other, ladder, rows):
    """Raise InvalidPaper unless rows are rows of the ladder that lead from word to other."""
    here = word
    for k, row in enumerate(rows):
        if not is_below(len(ladder), row):
            raise InvalidPaper("row", k)
        if not plain_clash(ladder[row], here):
            raise InvalidPaper("idle", k)
        here = plain_sum(len(word), (ladder[row], here))
    if here != other:
        raise InvalidPaper("end", -1)


def lets_turn_paper(house, word, other, thing):
    """How many turns the paper thing has."""
    need_word(house[0], word)
    need_other(house[0], other)
    if not starts_with("turns", thing) or len(thing) != 3 or not isinstance(thing[2], tuple):
        raise InvalidPaper("shape", -1)
    _, ladder, rows = thing
    if not (ladder == () and rows == ()) and not is_ladder(house, ladder):
        raise InvalidPaper("ladder", -1)
    check_rows(word, other, ladder, rows)
    return len(rows)

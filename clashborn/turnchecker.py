"""The checker of turns by made words."""

from clashborn.bits import code_of, parity, swapped, word_of
from clashborn.errors import InvalidPaper
from clashborn.frames import Frame
from clashborn.kinds import is_wide_word
from clashborn.making import maker_in
from clashborn.usable import need_word


def lets_turns(house, word, thing):
    """The word that the last of the turns in thing gives, or word if there is none."""
    need_word(house[0], word)
    if not isinstance(thing, tuple):
        raise InvalidPaper("shape", -1)
    frame = Frame(house)
    made = {}
    here = code_of(word)
    for k, turn in enumerate(thing):
        if not is_wide_word(house[0], turn):
            raise InvalidPaper("word", k)
        code = code_of(turn)
        if code not in made:
            made[code] = maker_in(frame, code) is not None
        if not made[code]:
            raise InvalidPaper("made", k)
        if parity(here & swapped(house[0], code)) == 0:
            raise InvalidPaper("idle", k)
        here = here ^ code
    return word_of(house[0], here)

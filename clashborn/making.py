"""Made words, and papers of words that are not made."""

from clashborn.bits import code_of
from clashborn.comings import Start
from clashborn.errors import InvalidPaper
from clashborn.frames import Frame
from clashborn.refusals import is_refusal
from clashborn.usable import need, need_word


def first_word(frame, piece):
    """The told word of the piece with the least number."""
    return frame.told_words[frame.pieces[piece][0]]


def first_start(frame, piece):
    """The start of first_word: what comes of it is what is made of the piece."""
    if piece not in frame.starts:
        frame.starts[piece] = Start(frame, first_word(frame, piece))
    return frame.starts[piece]


def maker_in(frame, code):
    """The number of the piece of which the word of this code is made, or None."""
    # A made word meets its own piece and no other one, or nothing if this piece is lone.
    met = frame.met(frame.crossing(code))
    near = met if met != [] else [piece for piece, lot in enumerate(frame.pieces) if len(lot) == 1]
    makers = [piece for piece in near if first_start(frame, piece).comes(code)]
    return makers[0] if makers != [] else None


def is_made(house, word):
    """True if the word is a made word of the house, otherwise False."""
    return maker_of(house, word) is not None


def maker_of(house, word):
    """The number of the piece of which the word is made, or None."""
    need_word(house[0], word)
    return maker_in(Frame(house), code_of(word))


def refusals_in(frame, code):
    """The tuple of a refusal of the word of this code, which is not made, from the first word of each piece."""
    return tuple([first_start(frame, piece).verdict(code) for piece in range(len(frame.pieces))])


def unmade_paper(house, word):
    """A tuple with, for each piece, any refusal of word from the told word of the piece with the least number."""
    need_word(house[0], word)
    frame = Frame(house)
    need(maker_in(frame, code_of(word)) is None, "word")
    return refusals_in(frame, code_of(word))


def check_unmade(frame, word, thing):
    """Raise InvalidPaper unless thing is a tuple as unmade_paper."""
    if not isinstance(thing, tuple) or len(thing) != len(frame.pieces):
        raise InvalidPaper("shape", -1)
    for piece, refusal in enumerate(thing):
        if not is_refusal(frame, first_word(frame, piece), word, refusal):
            raise InvalidPaper("refusal", piece)


def is_unmade_paper(frame, word, thing):
    """True if thing is a tuple as unmade_paper, otherwise False."""
    try:
        check_unmade(frame, word, thing)
    except InvalidPaper:
        return False
    return True


def lets_unmade(house, word, thing):
    """How many elements thing, a tuple as unmade_paper, has."""
    need_word(house[0], word)
    check_unmade(Frame(house), word, thing)
    return len(thing)

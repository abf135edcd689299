"""Rivals: two words that meet one piece alone, differ by a sum of it, and do not come of each other."""

from clashborn.bits import code_of, parity, reduced, span_of, swapped
from clashborn.crossed import crossed_codes
from clashborn.frames import Frame
from clashborn.meetings import Visit
from clashborn.pieceforms import form_of
from clashborn.usable import need, need_other, need_word


class Rivalry:
    """A word that meets this one piece alone, swept and without an odd relation; sums of it lead from word to word.

    The value of a sum tells two classes apart: added to the word it gives what comes of the word if its value is 0,
    and what comes of any rival if it is 1, provided that what it gives meets the piece.
    """

    def __init__(self, frame, word, piece):
        self.places = frame.places
        self.form = form_of(frame, piece)
        self.word_code = code_of(word)
        self.tilt = swapped(frame.places, self.word_code)
        # Of sums of the rest alone the value adds up; of others, what clashes counts as well.
        self.crossed_pairs, self.rest = crossed_codes(frame.places, self.form.basis)

    def value(self, code):
        """0 or 1, the value of the sum of this code."""
        return self.form.sign(code) ^ parity(code & self.tilt)

    def leads(self, code):
        """True if the word, with the sum of this code added, meets the piece."""
        return self.form.crossing(self.word_code ^ code) != 0

    def has_sum(self, code):
        """True if the word of this code is a sum of the piece."""
        return reduced(span_of(self.form.basis)[0], code)[0] == 0


def rivalry_of(frame, word, other):
    """The rivalry of the two words, from the first one on, or None if they are no rivals."""
    visit = Visit(frame, word)
    rival = Visit(frame, other)
    if len(visit.met_pieces) != 1 or visit.met_pieces != rival.met_pieces:
        return None
    piece = visit.met_pieces[0]
    if visit.manner(piece)[0] != "swept" or rival.manner(piece)[0] != "swept" or form_of(frame, piece).odd is not None:
        return None
    rivalry = Rivalry(frame, word, piece)
    code = visit.word_code ^ rival.word_code
    return rivalry if rivalry.has_sum(code) and rivalry.value(code) == 1 else None


def need_rivals(house, word, other):
    """The rivalry of the two words, of which other must be a rival of word."""
    need_word(house[0], word)
    need_other(house[0], other)
    rivalry = rivalry_of(Frame(house), word, other)
    need(rivalry is not None, "other")
    return rivalry

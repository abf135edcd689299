"""Pieces as objects."""

from clashborn.comings import verdict_of
from clashborn.frames import Frame
from clashborn.kindpapers import kind_paper
from clashborn.kinds import is_house
from clashborn.piecekinds import kind_of
from clashborn.signs import sign_word
from clashborn.tiework import pieces_of
from clashborn.usable import need, need_piece, need_word


class Piece:
    """One piece of a house."""

    def __init__(self, house, piece):
        need(is_house(house), "house")
        need_piece(Frame(house), piece)
        self._house = house
        self._number = piece

    def __eq__(self, other):
        return isinstance(other, Piece) and self._house == other._house and self._number == other._number

    def kind(self):
        """Its kind."""
        return kind_of(self._house, self._number)

    def told(self):
        """The lot of its told words."""
        return pieces_of(self._house)[self._number]

    def paper(self):
        """A paper of its kind, as kind_paper."""
        return kind_paper(self._house, self._number)

    def sign(self):
        """Any sign word of its told words, as sign_word."""
        return sign_word(self._house, self._number)

    def made(self, word):
        """True if the word is made of the piece, otherwise False."""
        places, words = self._house
        need_word(places, word)
        alone = tuple([words[k] for k in self.told()])
        # The words made of a piece are those that come of each of its told words, by these words alone.
        return verdict_of(Frame((places, alone)), alone[0], word)[0] == "lot"

"""Sign words, and signs by them."""

from clashborn.errors import Odd
from clashborn.frames import Frame
from clashborn.letters import plain_clash, ys_of
from clashborn.usable import need_piece, need_word
from clashborn.wishing import wish_found


def sign_found(house, lot):
    """Any sign word of the told words of the lot; Odd with an odd relation of them if there is none."""
    words = [house[1][told] for told in lot]
    # A lot with a blank sum is odd exactly if an odd number of its words have an even number of letters Y.
    word, odd_places = wish_found(house[0], words, [1 - ys_of(word) % 2 for word in words])
    if word is None:
        raise Odd(tuple([lot[k] for k in odd_places]))
    return word


def is_sign_word(house, lot, word):
    """True if the word, with as many letters as there are places, is a sign word of the told words of the lot."""
    return all([plain_clash(word, house[1][told]) == (ys_of(house[1][told]) % 2 == 0) for told in lot])


def sign_word(house, piece):
    """Any sign word of the piece's told words; Odd with an odd relation if there is none."""
    frame = Frame(house)
    need_piece(frame, piece)
    return sign_found(house, frame.pieces[piece])


def house_sign(house):
    """Any sign word of all told words; Odd with an odd relation if there is none."""
    return sign_found(house, tuple(range(len(house[1]))))


def sign_by(sign, word):
    """The sign of the word by the word sign, 0 or 1."""
    need_word(len(sign), word)
    if plain_clash(sign, word):
        return 1 - ys_of(word) % 2
    return ys_of(word) % 2

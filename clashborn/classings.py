"""Which words are of one class, and the first word of a class."""

from clashborn.bits import code_of
from clashborn.comings import Start
from clashborn.frames import Frame
from clashborn.usable import need_word, need_words
from clashborn.walking import walked_words


def classes_among(house, words):
    """The joining of the words, those of one class joined."""
    need_words(house[0], words)
    frame = Frame(house)
    starts = {}
    joining = []
    for k, word in enumerate(words):
        code = code_of(word)
        joined = [first for first in starts if starts[first].comes(code)]
        if joined == []:
            starts[k] = Start(frame, word)
            joined = [k]
        joining.append(joined[0])
    return tuple(joining)


def first_of(house, word):
    """The least word that comes of word."""
    need_word(house[0], word)
    return walked_words(Frame(house), word)[0]

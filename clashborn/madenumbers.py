"""Made words by their numbers."""

from clashborn.bits import code_of
from clashborn.frames import Frame
from clashborn.kinds import is_below
from clashborn.making import first_word, maker_in
from clashborn.piececounts import made_size
from clashborn.startcounts import made_showing, start_bits
from clashborn.usable import need, need_word
from clashborn.walking import walked_words

# Words are compared as strings, so the letters count in the sequence of the alphabet.
ALPHABET = "IXYZ"


def count_starting(frame, start):
    """How many made words begin with start."""
    shown, wanted = start_bits(frame.places, start)
    return made_showing(frame, shown, wanted)


def count_before(frame, word):
    """How many made words are less than word."""
    many = 0
    for place in range(frame.places):
        below = ALPHABET[:ALPHABET.index(word[place])]
        many = many + sum([count_starting(frame, word[:place] + letter) for letter in below])
    return many


def word_at(frame, number):
    """The made word with this number."""
    start = ""
    left = number
    while len(start) < frame.places:
        for letter in ALPHABET:
            many = count_starting(frame, start + letter)
            if left < many:
                break
            left = left - many
        start = start + letter
    return start


def made_before(house, word):
    """How many made words are less than word."""
    need_word(house[0], word)
    return count_before(Frame(house), word)


def number_of(house, word):
    """The number of the made word."""
    need_word(house[0], word)
    frame = Frame(house)
    need(maker_in(frame, code_of(word)) is not None, "word")
    return count_before(frame, word)


def made_at(house, number):
    """The made word with this number."""
    frame = Frame(house)
    need(is_below(made_size(frame), number), "number")
    return word_at(frame, number)


def next_made(house, word):
    """The least made word greater than word, or None."""
    need_word(house[0], word)
    frame = Frame(house)
    number = count_before(frame, word)
    if maker_in(frame, code_of(word)) is not None:
        number = number + 1
    return word_at(frame, number) if number < made_size(frame) else None


def made_list(house):
    """All made words, ascending, one by one."""
    frame = Frame(house)
    words = []
    for piece in range(len(frame.pieces)):
        words.extend(list(walked_words(frame, first_word(frame, piece))))
    for word in sorted(words):
        yield word

"""What happens to a house while its words are told, one after the other."""

from clashborn.frames import Frame
from clashborn.furthers import is_unpaired
from clashborn.pairwalks import kind_at


def grown_frames(house):
    """For each told number k the frame of the words told 0 to k."""
    return [Frame((house[0], house[1][:k + 1])) for k in range(len(house[1]))]


def last_piece(frame):
    """The number of the piece in which the word lies that is told last."""
    last = len(frame.codes) - 1
    return [piece for piece, lot in enumerate(frame.pieces) if last in lot][0]


def story_of(house):
    """For each told number k the kind of the piece of the word told k among the words told 0 to k."""
    return tuple([kind_at(frame, last_piece(frame)) for frame in grown_frames(house)])


def pieces_story(house):
    """For each told number k how many pieces the words told 0 to k have."""
    return tuple([len(frame.pieces) for frame in grown_frames(house)])


def first_tipped(house):
    """The least told number at which the story has "strict" or "loose", or None."""
    for told, kind in enumerate(story_of(house)):
        if is_unpaired(kind):
            return told
    return None

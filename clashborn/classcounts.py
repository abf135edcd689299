"""How many classes all words fall into."""

from clashborn.errors import Shared
from clashborn.frames import Frame
from clashborn.pieceforms import form_of
from clashborn.sharings import first_sharing


def coin_classes(form):
    """Twice how many classes there are of words that have coins, for each word that does not meet the paired piece.

    Coins on some points are those on all the others as well, so each number of coins, from one to all points but one,
    stands for half a class. Rings multiply the words of a class, but not the classes.
    """
    if form.whole is None:
        return form.points - 1
    # A whole relation lets coins be on an even number of points alone, and parts those on just half of them.
    return 2 * (form.points // 4)


def paired_quotient(form):
    """As quotient_of, for a paired piece: words that meet it nowhere, with coins, and without coins.

    Up to five points, signs let what would be let if coins were counted.
    """
    scale = 2 << len(form.rings)
    ringed = scale - 2 if form.odd is not None else 2 * scale - 4
    return (scale + coin_classes(form) + ringed, len(form.rings) + 1)


def quotient_of(form):
    """A pair (top, power): the classes by this piece are top / 2 ** power for each word that meets it nowhere."""
    if form.kind == "paired":
        return paired_quotient(form)
    if form.kind == "lone":
        return (3, 1)
    return (3, 0) if form.kind == "strict" else (2, 0)


def class_count(house):
    """How many classes all words with as many letters as the house has places fall into; Shared if pieces share."""
    frame = Frame(house)
    pieces = list(range(len(frame.pieces)))
    sharing = first_sharing(frame, pieces)
    if sharing is not None:
        raise Shared(sharing)
    free = 2 * frame.places
    many = 1
    power = 0
    for piece in pieces:
        form = form_of(frame, piece)
        top, lower = quotient_of(form)
        many = many * top
        power = power + lower
        free = free - len(form.basis)
    return (many << free) >> power

"""How many classes all words fall into."""

from clashborn.errors import Shared
from clashborn.frames import Frame
from clashborn.pieceforms import form_of
from clashborn.sharings import first_sharing


def coin_classes(form):
    """Twice how many classes there are of words with coins on a large piece, for each word that meets it nowhere.

    Rings multiply the words of a class, but not the classes.
    """
    half = form.points // 2
    if form.whole is None:
        # With coins on just half of the points, the words come in pairs of one class.
        return form.points - 1
    # A whole relation lets coins be on an even number of points alone.
    return 2 * (half // 2) if form.points % 4 == 0 else 2 * ((half - 1) // 2)


def large_quotient(form):
    """A pair (top, power): the classes by a large piece are top / 2 ** power for each word that meets it nowhere."""
    scale = 2 << len(form.rings)
    swept = scale - 2 if form.odd is not None else 2 * scale - 4
    return (scale + coin_classes(form) + swept, len(form.rings) + 1)


def quotient_of(form):
    """A pair (top, power): the classes by this piece are top / 2 ** power for each word that meets it nowhere."""
    if form.kind == "lone":
        return (3, 1)
    if form.kind == "loose":
        return (2, 0)
    if form.kind == "strict" or form.points == 5:
        return (3, 0)
    if form.is_large():
        return large_quotient(form)
    return (3 * (1 << len(form.rest)) - 1, len(form.rest))


def class_count(house):
    """How many classes all words with as many letters as the house has places fall into; Shared if pieces share."""
    frame = Frame(house)
    pieces = list(range(len(frame.pieces)))
    sharing = first_sharing(frame, pieces)
    if sharing is not None:
        raise Shared(sharing)
    free = 2 * frame.places
    many = 1
    power = 0
    for piece in pieces:
        form = form_of(frame, piece)
        top, lower = quotient_of(form)
        many = many * top
        power = power + lower
        free = free - len(form.basis)
    return (many << free) >> power

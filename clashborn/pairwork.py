"""Pairings at work: lots with given ends, rings, whole relations and words for points."""

from clashborn.bits import crossing_all, lot_of, word_of
from clashborn.errors import Odd
from clashborn.frames import Frame
from clashborn.kinds import is_lot
from clashborn.pairings import ends_within, need_pairs
from clashborn.pointtrees import count_points, places_with_ends, ring_at, root_paths, tree_places
from clashborn.usable import need


def told_lot(frame, piece, places):
    """The lot of the told words at these ascending places in the piece."""
    return tuple([frame.pieces[piece][at] for at in places])


def whole_mask(frame, piece, pairs):
    """The mask of any whole relation, or None."""
    # The ends of a relation are none or all points, so one of a basis shows whether there is a whole one.
    for mask in frame.relations(frame.piece_masks[piece]):
        if ends_within(frame, piece, pairs, mask) != ():
            return mask
    return None


def lot_with_ends(house, piece, pairs, ends):
    """Any lot within the piece whose ends are these points."""
    frame = Frame(house)
    need_pairs(frame, piece, pairs)
    need(is_lot(count_points(pairs), ends) and len(ends) % 2 == 0, "ends")
    return told_lot(frame, piece, places_with_ends(root_paths(pairs), ends))


def ring_basis(house, piece, pairs):
    """Any tuple of independent rings such that each ring is the sum of some of them."""
    frame = Frame(house)
    need_pairs(frame, piece, pairs)
    paths = root_paths(pairs)
    tree = tree_places(paths)
    rings = [ring_at(pairs, paths, at) for at in range(len(pairs)) if at not in tree]
    return tuple([told_lot(frame, piece, ring) for ring in rings])


def whole_relation(house, piece, pairs):
    """Any whole relation, or None."""
    frame = Frame(house)
    need_pairs(frame, piece, pairs)
    mask = whole_mask(frame, piece, pairs)
    if mask is None:
        return None
    return lot_of(mask)


def word_at_point(frame, piece, pairs, point):
    """Any word that clashes with a told word of the piece exactly if its pair has the point."""
    wishes = [1 if point in pair else 0 for pair in pairs]
    code, _ = crossing_all([frame.swaps[told] for told in frame.pieces[piece]], wishes)
    return word_of(frame.places, code)


def point_words(house, piece, pairs):
    """Any tuple with a word for each point; Odd with a whole relation if there is one."""
    frame = Frame(house)
    need_pairs(frame, piece, pairs)
    mask = whole_mask(frame, piece, pairs)
    if mask is not None:
        raise Odd(lot_of(mask))
    return tuple([word_at_point(frame, piece, pairs, point) for point in range(count_points(pairs))])

"""Which lights come of a light."""

from clashborn.bits import lot_of, lot_with_sum, mask_of, mask_sum, span_of
from clashborn.comings import comes_of
from clashborn.frames import Frame
from clashborn.halls import house_of_hall, light_word, need_light, need_rule
from clashborn.kinds import is_lot
from clashborn.lettings import shift_at, side_at
from clashborn.meetings import Visit
from clashborn.usable import need


def need_other_light(hall, other):
    """The parameter other must be a lot of the lamps."""
    need(is_lot(hall[0], other), "other")


def changing_mask(visit, piece, change):
    """The mask of a lot of the part's lamps that is let and changes just the lamps of this mask, or None."""
    frame = visit.frame
    lot = frame.pieces[piece]
    ties = [frame.ties[lamp] for lamp in lot]
    local = lot_with_sum(ties, change)
    if local is None:
        return None
    singles = [1 << lamp for lamp in lot]
    mask = mask_sum(singles, local)
    side = side_at(visit, mask, piece)
    # Lots that change nothing shift the side as relations do: their sums are apart from all told words of the part.
    still = [0] + [mask_sum(singles, relation) for relation in span_of(ties)[2]]
    fitting = [lots for lots in still if shift_at(visit, lots, piece) == side]
    return mask ^ fitting[0] if fitting != [] else None


def lit_mask(hall, light, other):
    """The mask of a lot as lit_lot, or None."""
    visit = Visit(Frame(house_of_hall(hall)), light_word(hall, "lit", light))
    goal = mask_of(other)
    change = mask_of(light) ^ goal
    found = 0
    for piece, mask in enumerate(visit.frame.piece_masks):
        if change & mask:
            # Where no lamp is lit, none can be pressed, and by pressing lamps the last lit one does not go out.
            if visit.met_mask & mask == 0 or goal & mask == 0:
                return None
            part = changing_mask(visit, piece, change & mask)
            if part is None:
                return None
            found = found ^ part
    return found


def light_comes(hall, rule, light, other):
    """True if other comes of light by the rule, otherwise False."""
    need_rule(rule)
    need_light(hall, light)
    need_other_light(hall, other)
    if rule == "odd":
        return comes_of(house_of_hall(hall), light_word(hall, rule, light), light_word(hall, rule, other))
    return lit_mask(hall, light, other) is not None


def lit_lot(hall, light, other):
    """None if other does not come of light by "lit", otherwise any lot of lamps that shows that it does."""
    need_light(hall, light)
    need_other_light(hall, other)
    mask = lit_mask(hall, light, other)
    if mask is None:
        return None
    return lot_of(mask)

"""Coins that slide along streets."""

from clashborn.bits import lot_of, mask_of, parity
from clashborn.errors import InvalidPaper
from clashborn.frames import pieces_from
from clashborn.kinds import is_below, is_lot
from clashborn.pairwalks import reach_order
from clashborn.pointtrees import lots_merged, near_points
from clashborn.usable import need
from clashborn.webs import near_masks


def need_coins(web, coins):
    """The parameter coins must be a lot of the points."""
    need(is_lot(web[0], coins), "coins")


def need_both(web, coins, other):
    """The parameters coins and other must be lots of the points."""
    need_coins(web, coins)
    need(is_lot(web[0], other), "other")


def can_slide(web, now, street):
    """True if just one end of the street has a coin, now being the mask of the coins."""
    return parity(now & mask_of(web[1][street])) == 1


def are_as_many(web, coins, other):
    """True if on each part that hangs together both have as many coins."""
    change = lots_merged(coins, other)
    for part in pieces_from(near_masks(web)):
        changed = [point for point in part if point in change]
        if 2 * len([point for point in changed if point in coins]) != len(changed):
            return False
    return True


def way_to_unlike(near, left, now, start):
    """The streets from start, and a nearest point in left with a coin if start has none, without one if it has one."""
    ways = {start: []}
    edge = [start]
    while True:
        point = edge.pop(0)
        if parity(now & mask_of((start, point))) == 1:
            return ways[point], point
        for street, far in near[point]:
            if far in left and far not in ways:
                ways[far] = ways[point] + [street]
                edge.append(far)


def coins_come(web, coins, other):
    """True if other comes of coins, otherwise False."""
    need_both(web, coins, other)
    return are_as_many(web, coins, other)


def fewest_jumps(web, coins, other):
    """Half the number of points in just one of both; None if other does not come."""
    need_both(web, coins, other)
    if not are_as_many(web, coins, other):
        return None
    return len(lots_merged(coins, other)) // 2


def slid(web, coins, street):
    """The coins after a slide along the street, which must be let."""
    need_coins(web, coins)
    need(is_below(len(web[1]), street) and can_slide(web, mask_of(coins), street), "street")
    return tuple(lots_merged(coins, web[1][street]))


def lets_slides(web, coins, thing):
    """The coins after slides along the streets in thing, in sequence."""
    need_coins(web, coins)
    if not isinstance(thing, tuple):
        raise InvalidPaper("shape", -1)
    now = mask_of(coins)
    for k, street in enumerate(thing):
        if not is_below(len(web[1]), street):
            raise InvalidPaper("street", k)
        if not can_slide(web, now, street):
            raise InvalidPaper("barred", k)
        now = now ^ mask_of(web[1][street])
    return lot_of(now)


def slides_of(web, coins, other):
    """Any tuple of streets whose slides lead from coins to other; None if there is none."""
    need_both(web, coins, other)
    if not are_as_many(web, coins, other):
        return None
    near = near_points(web[1])
    ties = near_masks(web)
    now = mask_of(coins)
    goal = mask_of(other)
    slides = []
    for part in pieces_from(ties):
        # Without its last point, what is left of this sequence still hangs together.
        left = reach_order(ties, part[0])
        while left:
            point = left.pop()
            if ((now ^ goal) >> point) & 1:
                way, far = way_to_unlike(near, left, now, point)
                # All points between are like the start, so coins, or the one coin, move up from the far end.
                slides.extend(way[::-1])
                now = now ^ mask_of((point, far))
    return tuple(slides)

"""Pieces, gone through word by word: pairs as far as there are any, and the kind."""

from clashborn.bits import lot_of
from clashborn.pointtrees import coins_by, count_points

# Four points have three ways to be parted into two pairs. Words with unlike ways clash, words with like ways
# do not; of the two pairs of a way the first is without point 0 and the second one is with it.
WAYS = (((2, 3), (0, 1)), ((1, 3), (0, 2)), ((1, 2), (0, 3)))


def reach_order(ties, start):
    """The told words of the piece of start, each behind some word that clashes with it."""
    order = [start]
    seen = 1 << start
    at = 0
    while at < len(order):
        near = ties[order[at]]
        fresh = near ^ (near & seen)
        seen = seen ^ fresh
        order.extend(lot_of(fresh))
        at = at + 1
    return order


def renumbered(pairs):
    """The dict of pairs with their points as all numbers below some number, in the old sequence."""
    used = sorted(set([point for told in pairs for point in pairs[told]]))
    numbers = {point: k for k, point in enumerate(used)}
    return {told: (numbers[pairs[told][0]], numbers[pairs[told][1]]) for told in pairs}


def pairs_anew(ties, tolds, fresh):
    """Pairs for told words that have some on at most four points, and for a fresh word tied to them."""
    leaders = []
    pairs = {}
    for told in tolds:
        ways = [way for way, leader in enumerate(leaders) if (ties[told] >> leader) & 1 == 0]
        if ways == []:
            ways = [len(leaders)]
            leaders.append(told)
        # The fresh word gets point 0 and one of its own, so it clashes with just the pairs that have point 0.
        pairs[told] = WAYS[ways[0]][(ties[fresh] >> told) & 1]
    pairs[fresh] = (0, 4)
    return renumbered(pairs)


class Walk:
    """A piece, gone through until a word breaks all pairings.

    Pairs is a dict of the words before the breaker, in the sequence of the walk; breaker is None for a pairing.
    """

    def __init__(self, ties, lot):
        self.lot = lot
        self.pairs = {lot[0]: (0, 1)}
        self.points = 2
        self.breaker = None
        for fresh in reach_order(ties, lot[0])[1:]:
            if self.breaker is None:
                self.take(ties, fresh)

    def take(self, ties, fresh):
        """Give the fresh word a pair, or make it the breaker."""
        if self.points <= 4:
            self.pairs = pairs_anew(ties, list(self.pairs), fresh)
            self.points = count_points([self.pairs[told] for told in self.pairs])
            return
        flips = [(ties[fresh] >> told) & 1 for told in self.pairs]
        coins, _ = coins_by([self.pairs[told] for told in self.pairs], flips)
        # From five points on the pairs are the only ones, so what does not fit them fits none.
        if coins is None or len(coins) > 2:
            self.breaker = fresh
        elif len(coins) == 2:
            self.pairs[fresh] = coins
        else:
            self.pairs[fresh] = (coins[0], self.points)
            self.points = self.points + 1

    def pairing(self):
        """The pairs in the sequence of the piece, or None."""
        if self.breaker is not None:
            return None
        return tuple([self.pairs[told] for told in self.lot])


def walk_of(frame, piece):
    """The walk through the piece of this number."""
    if piece not in frame.walks:
        frame.walks[piece] = Walk(frame.ties, frame.pieces[piece])
    return frame.walks[piece]


def odd_mask(frame, piece):
    """The mask of any odd relation within the piece, or None."""
    for mask in frame.relations(frame.piece_masks[piece]):
        if frame.oddness(mask):
            return mask
    return None


def unpaired_kind(frame, piece):
    """The kind of a piece of two words at least that has no pairing."""
    if odd_mask(frame, piece) is None:
        return "strict"
    return "loose"


def kind_at(frame, piece):
    """The kind of the piece."""
    if len(frame.pieces[piece]) == 1:
        return "lone"
    if walk_of(frame, piece).breaker is None:
        return "paired"
    return unpaired_kind(frame, piece)

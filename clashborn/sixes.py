"""Sixes: six words of which just five given pairs clash."""

from clashborn.bits import word_of
from clashborn.errors import Unlike
from clashborn.frames import Frame
from clashborn.kinds import is_words
from clashborn.letters import plain_clash
from clashborn.pairwalks import kind_at, walk_of
from clashborn.pointtrees import path_between, root_paths, sides_of, wrong_place
from clashborn.usable import need_piece

SIX_TIES = ((0, 1), (1, 2), (2, 3), (3, 4), (2, 5))


class SixLadder:
    """A ladder of the piece of a broken walk, and in it the rows of a six.

    The rows are codes, first those of the piece's told words. Each pair of points is a word that can be made by
    going along the pairs from the one point to the other.
    """

    def __init__(self, frame, walk):
        numbers = {told: at for at, told in enumerate(walk.lot)}
        self.rows = [frame.codes[told] for told in walk.lot]
        self.breaker_row = numbers[walk.breaker]
        self.pair_rows = [numbers[told] for told in walk.pairs]
        self.pairs = [walk.pairs[told] for told in walk.pairs]
        self.paths = root_paths(self.pairs)
        flips = [(frame.ties[walk.breaker] >> told) & 1 for told in walk.pairs]
        self.sides = sides_of(self.paths, flips)
        self.wrong = wrong_place(self.pairs, self.sides, flips)
        self.six = self.six_by_sides() if self.wrong is None else self.six_by_ring()

    def sum_row(self, one, other):
        """The number of a new row, the sum of two rows that clash."""
        self.rows.append(self.rows[one] ^ self.rows[other])
        return len(self.rows) - 1

    def path_row(self, start, goal):
        """The number of a row with these two points, made along the tree."""
        places = path_between(self.paths, start, goal)
        row = self.pair_rows[places[0]]
        for at in places[1:]:
            row = self.sum_row(row, self.pair_rows[at])
        return row

    def ring_row(self, start, goal):
        """The number of a row with these two points that clashes with the breaker if that of path_row does not."""
        low, high = self.pairs[self.wrong]
        row = self.pair_rows[self.wrong]
        if (low, high) in ((start, goal), (goal, start)):
            return row
        if low not in (start, goal) and high not in (start, goal):
            row = self.sum_row(row, self.path_row(high, start))
            return self.sum_row(row, self.path_row(low, goal))
        kept, left = (low, high) if low in (start, goal) else (high, low)
        return self.sum_row(row, self.path_row(left, goal if kept == start else start))

    def fitted_row(self, start, goal, clash):
        """The number of a row with these two points that clashes with the breaker exactly if clash is 1."""
        if (self.sides[start] + self.sides[goal]) % 2 == clash:
            return self.path_row(start, goal)
        return self.ring_row(start, goal)

    def six_by_sides(self):
        """A six if the breaker parts the points: three on each side, in a row of five words, and it in the middle."""
        ones = [point for point in self.sides if self.sides[point] == 1]
        others = [point for point in self.sides if self.sides[point] == 0]
        points = ones[:3] + others[:3]
        return tuple([self.path_row(points[k], points[k + 1]) for k in range(5)] + [self.breaker_row])

    def six_by_ring(self):
        """A six if a ring clashes with the breaker: then each pair of points has words of both sorts."""
        row = [self.fitted_row(k, k + 1, 1 if k == 0 else 0) for k in range(4)]
        return tuple([self.breaker_row] + row + [self.fitted_row(0, 1, 0)])


def is_six(places, thing):
    """True if thing is a six of words with so many letters, otherwise False."""
    if not is_words(places, thing) or len(thing) != 6:
        return False
    for high in range(6):
        for low in range(high):
            if plain_clash(thing[low], thing[high]) != ((low, high) in SIX_TIES):
                return False
    return True


def six_codes(frame, piece):
    """The codes of a six made of a piece that is strict or loose."""
    ladder = SixLadder(frame, walk_of(frame, piece))
    return [ladder.rows[row] for row in ladder.six]


def six_of(house, piece):
    """Any six of words made of the piece; Unlike if it is lone or paired."""
    frame = Frame(house)
    need_piece(frame, piece)
    if walk_of(frame, piece).breaker is None:
        raise Unlike(kind_at(frame, piece))
    return tuple([word_of(frame.places, code) for code in six_codes(frame, piece)])

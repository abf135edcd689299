"""Words gone through by turns by told words, level by level."""

from clashborn.bits import lot_of


class ToldWalk:
    """What comes of the words of some codes by turns by told words of a mask, which has whole pieces.

    At k in levels are the codes that k turns lead to, and not fewer; came tells for each code the code before it and
    the told word that turned that one, or None for the codes at the start.
    """

    def __init__(self, frame, codes, mask):
        self.frame = frame
        self.crossings = {code: frame.crossing(code) & mask for code in codes}
        self.came = {code: None for code in codes}
        self.levels = [list(codes)]

    def grow(self):
        """Add the next level, possibly empty; True if it is not."""
        fresh = []
        for code in self.levels[-1]:
            near = lot_of(self.crossings[code])
            for told in near:
                there = code ^ self.frame.codes[told]
                if there not in self.came:
                    self.came[there] = (code, told)
                    self.crossings[there] = self.crossings[code] ^ self.frame.ties[told]
                    fresh.append(there)
        self.levels.append(fresh)
        return fresh != []

    def grow_whole(self):
        """Add all levels; no level is empty then."""
        while self.grow():
            pass
        self.levels.pop()

    def row_to(self, code):
        """The list of told numbers that lead from a code at the start to this one."""
        row = []
        while self.came[code] is not None:
            code, told = self.came[code]
            row.append(told)
        return row[::-1]


def walk_from(frame, code):
    """The walk from the word of this code by all told words."""
    return ToldWalk(frame, [code], (1 << len(frame.codes)) - 1)


def whole_walk(frame, code):
    """walk_from, with all levels."""
    walk = walk_from(frame, code)
    walk.grow_whole()
    return walk

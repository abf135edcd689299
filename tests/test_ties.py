"""[23] ties and pieces, [24] lots."""

import unittest

from clashborn.lots import is_odd, lot_sum, lots_added, part_of
from clashborn.tiework import met_by, piece_at, pieces_of, ties_of
from tests import plain
from tests.plain import BOTH, FIVE, LINE


def houses():
    chance = plain.chance_of(230)
    found = list(plain.NAMED) + [(1, ()), (60, ()), (2, ("XI",)), (3, ("XII", "IXI", "IIX"))]
    found += [plain.random_house(chance, places, many) for places in (1, 2, 3, 5, 8) for many in (2, 5, 8)]
    return found


class TiesTest(unittest.TestCase):
    def test_ties(self):
        for house in houses():
            wanted = tuple(
                tuple(k for k, other in enumerate(house[1]) if plain.clash(word, other)) for word in house[1]
            )
            self.assertEqual(ties_of(house), wanted)

    def test_pieces(self):
        for house in houses():
            self.assertEqual(pieces_of(house), plain.pieces(house))
            for piece, lot in enumerate(pieces_of(house)):
                for told in lot:
                    self.assertEqual(piece_at(house, told), piece)
                    self.assertEqual(piece_at(told=told, house=house), piece)
        self.assertEqual((pieces_of((1, ())), ties_of((1, ()))), ((), ()))

    def test_met(self):
        chance = plain.chance_of(231)
        for house in houses():
            for _ in range(10):
                word = plain.random_word(chance, house[0])
                self.assertEqual(met_by(house, word), plain.met(house, word))
        self.assertEqual(met_by(word="ZZ", house=(2, ())), ())

    def test_forty_words_on_sixty_places(self):
        chance = plain.chance_of(232)
        house = (60, tuple("I" * k + "X" + "I" * (59 - k) for k in range(40)))
        self.assertEqual(pieces_of(house), tuple((k,) for k in range(40)))
        self.assertEqual(met_by(house, "Z" * 60), tuple(range(40)))
        house = plain.random_house(chance, 60, 40)
        self.assertEqual(pieces_of(house), plain.pieces(house))

    def test_examples(self):
        self.assertEqual(ties_of(BOTH), ((2,), (), (0,)))
        self.assertEqual(pieces_of(BOTH), ((0, 2), (1,)))
        self.assertEqual(met_by(BOTH, "YX"), (0, 1))


class LotsTest(unittest.TestCase):
    def test_sums_and_odd_lots(self):
        for house in houses():
            for lot in plain.lots_below(min(len(house[1]), 6)):
                self.assertEqual(lot_sum(house, lot), plain.lot_total(house, lot))
                self.assertIs(is_odd(house, lot), plain.odd(house, lot))
        self.assertEqual(lot_sum(lot=(), house=(3, ())), "III")
        self.assertIs(is_odd(lot=(), house=(3, ())), False)

    def test_parts(self):
        for house in houses():
            for piece, within in enumerate(plain.pieces(house)):
                for lot in plain.lots_below(min(len(house[1]), 6)):
                    self.assertEqual(part_of(house, lot, piece), tuple(k for k in lot if k in within))
        self.assertEqual(part_of(piece=1, lot=(0, 1), house=BOTH), (1,))

    def test_lots_added(self):
        for one in plain.lots_below(4):
            for other in plain.lots_below(4):
                self.assertEqual(lots_added(one, other), plain.merged(one, other))
        self.assertEqual(lots_added(other=(10 ** 40,), one=(0, 99)), (0, 99, 10 ** 40))

    def test_examples(self):
        self.assertEqual(lot_sum(FIVE, (0, 2)), "XX")
        self.assertIs(is_odd(LINE, (0, 1)), True)


if __name__ == "__main__":
    unittest.main()

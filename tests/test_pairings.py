"""[25] pairings, [26] pairings at work."""

import itertools
import unittest

from clashborn.errors import Odd, Unlike
from clashborn.pairings import ends_of, is_pairing, pairing_of, points_in
from clashborn.pairwork import lot_with_ends, point_words, ring_basis, whole_relation
from clashborn.tiework import pieces_of
from tests import plain
from tests.plain import BOTH, FIVE, LINE, MORE, ROW, SIX, TRIO

CHAIN = ((0, 1), (1, 2), (2, 3), (3, 4), (4, 5))
TRIANGLE = ((0, 1), (1, 2), (0, 2))
STAR = ((0, 3), (1, 3), (2, 3))


def small_houses():
    """Houses with pieces that are small enough for plain trial of all pairings."""
    chance = plain.chance_of(250)
    found = [LINE, TRIO, BOTH, FIVE, ROW, (2, ("XI", "ZZ", "YI", "YZ")), (3, ("XII", "XXI", "ZII", "YIZ"))]
    found += [plain.random_house(chance, places, many) for places in (1, 2, 2, 3, 3, 4) for many in (1, 3, 4, 5)]
    return found


def paired_pieces():
    """Triples (house, piece, pairing): all pairings of small pieces, and one of larger ones."""
    for house in small_houses():
        for piece, lot in enumerate(plain.pieces(house)):
            if len(lot) < 5:
                for pairs in plain.pairings(house, lot)[::7]:
                    yield house, piece, pairs
    chance = plain.chance_of(251)
    for points, many in ((5, 7), (6, 6), (6, 9), (7, 8), (8, 9)):
        for _ in range(3):
            house = plain.paired_house(chance, points, many)
            yield house, 0, pairing_of(house, 0)


class PairingsTest(unittest.TestCase):
    def test_is_pairing_on_all_tuples_of_pairs(self):
        pairs = list(itertools.combinations(range(4), 2)) + [(1, 0), (0, 0), (0, 4), (-1, 0)]
        for house in (LINE, TRIO, (2, ("XI", "ZI", "YZ")), (2, ("XI", "ZZ"))):
            for thing in itertools.product(pairs, repeat=len(house[1])):
                self.assertIs(is_pairing(house, 0, thing), plain.is_pairing(house, plain.pieces(house)[0], thing))

    def test_is_pairing_of_other_things(self):
        good = ((0, 1), (1, 2), (2, 3))
        self.assertIs(is_pairing(thing=good, piece=0, house=LINE), True)
        for thing in (None, True, 1, "", (), [], list(good), good[:2], good + ((3, 4),), ((0, 1), [1, 2], (2, 3)),
                      ((0, 1), (1, 2), (2, 3, 3)), ((False, True), (True, 2), (2, 3)), (0, 1, 2), ("01", "12", "23"),
                      ((0, 1), (1, 2), (2, 4)), ((1, 2), (2, 3), (3, 4)), ((0, 1), (1, 2), (2, 10 ** 40)),
                      ((0, 1), (1, 2), None), ((0, 1), (1, 2), ((2,), 3)), ((0, "1"), (1, 2), (2, 3))):
            self.assertIs(is_pairing(LINE, 0, thing), False)
        self.assertIs(is_pairing(BOTH, 1, ((0, 1),)), True)
        for thing in (((0, 2),), ((1, 2),), ((1, 0),), (), ((0, 1), (0, 1))):
            self.assertIs(is_pairing(BOTH, 1, thing), False)

    def test_no_pairing_of_strict_and_loose_pieces(self):
        for house in (SIX, MORE):
            for thing in (CHAIN + ((2, 6),), CHAIN + ((0, 1),), house[1], ()):
                self.assertIs(is_pairing(house, 0, thing), False)

    def test_pairing_of_small_pieces(self):
        for house in small_houses():
            for piece, lot in enumerate(plain.pieces(house)):
                if len(lot) > 5:
                    continue
                # All pieces of five words at most have a pairing: the least ones without are sixes.
                found = pairing_of(house, piece)
                self.assertTrue(plain.is_pairing(house, lot, found))
                self.assertIs(is_pairing(house, piece, found), True)
        self.assertEqual(pairing_of(piece=1, house=BOTH), ((0, 1),))

    def test_pairing_of_larger_pieces(self):
        chance = plain.chance_of(252)
        for points in (3, 4, 5, 6, 7, 12, 20, 41):
            for many in (points - 1, min(2 * points, 40)):
                house = plain.paired_house(chance, points, many)
                found = pairing_of(house, 0)
                self.assertTrue(plain.is_pairing(house, plain.pieces(house)[0], found))
                if points > 4:
                    self.assertEqual(points_in(found), points)

    def test_like_pairs(self):
        # Four points allow for at most six pairs, but for any number of words with them.
        words = [a + b for a in "XYZ" for b in "IXYZ"]
        house = (3, tuple(word + tail for word in words for tail in "IX"))
        found = pairing_of(house, 0)
        self.assertTrue(plain.is_pairing(house, plain.pieces(house)[0], found))
        self.assertLess(len(set(found)), len(found))

    def test_pairing_of_strict_and_loose_pieces(self):
        for house, kind in ((SIX, "strict"), (MORE, "loose"), (plain.LONG, "strict")):
            with self.assertRaises(Unlike) as caught:
                pairing_of(house, 0)
            self.assertEqual(caught.exception.kind, kind)

    def test_points(self):
        self.assertEqual(points_in(((0, 1),)), 2)
        self.assertEqual(points_in(pairs=((0, 1), (0, 1), (1, 2))), 3)
        self.assertEqual(points_in(STAR), 4)
        self.assertEqual(points_in(tuple((2 * k, 2 * k + 1) for k in range(60))), 120)

    def test_ends(self):
        for house, piece, pairs in paired_pieces():
            lot = plain.pieces(house)[piece]
            for part in plain.lots_below(len(house[1]))[:200]:
                wanted = plain.ends(pairs, [lot.index(told) for told in part if told in lot])
                self.assertEqual(ends_of(house, piece, pairs, part), wanted)
        self.assertEqual(ends_of(lot=(0, 1), pairs=((0, 1),), piece=1, house=BOTH), (0, 1))

    def test_examples(self):
        self.assertIs(is_pairing(LINE, 0, ((0, 1), (1, 2), (2, 3))), True)
        self.assertEqual(ends_of(LINE, 0, ((0, 1), (1, 2), (2, 3)), (0, 2)), (0, 1, 2, 3))


class PairWorkTest(unittest.TestCase):
    def test_lots_with_ends(self):
        for house, piece, pairs in paired_pieces():
            lot = plain.pieces(house)[piece]
            for ends in plain.lots_below(points_in(pairs)):
                if len(ends) % 2 == 0:
                    found = lot_with_ends(house, piece, pairs, ends)
                    self.assertIs(type(found), tuple)
                    self.assertEqual(found, tuple(sorted(set(found) & set(lot))))
                    self.assertEqual(plain.ends(pairs, [lot.index(told) for told in found]), ends)

    def test_ring_basis(self):
        for house, piece, pairs in paired_pieces():
            lot = plain.pieces(house)[piece]
            rings = [tuple(lot[k] for k in places) for places in plain.lots_below(len(lot))
                     if plain.ends(pairs, places) == ()]
            found = ring_basis(house, piece, pairs)
            self.assertIs(type(found), tuple)
            self.assertTrue(plain.lots_independent(found))
            self.assertEqual(plain.lots_spanned(found), set(rings))
        self.assertEqual(ring_basis(LINE, 0, ((0, 1), (1, 2), (2, 3))), ())

    def test_whole_relations_and_point_words(self):
        seen = set()
        for house, piece, pairs in paired_pieces():
            lot = plain.pieces(house)[piece]
            points = tuple(range(points_in(pairs)))
            wholes = [part for part in plain.relations(house, lot)
                      if plain.ends(pairs, [lot.index(told) for told in part]) == points]
            found = whole_relation(house, piece, pairs)
            seen.add(found is None)
            if wholes:
                self.assertIn(found, wholes)
                with self.assertRaises(Odd) as caught:
                    point_words(house, piece, pairs)
                self.assertIn(caught.exception.lot, wholes)
                continue
            self.assertIsNone(found)
            words = point_words(house, piece, pairs)
            self.assertIs(type(words), tuple)
            self.assertEqual(len(words), len(points))
            for point, word in enumerate(words):
                self.assertEqual(len(word), house[0])
                for told, pair in zip(lot, pairs):
                    self.assertIs(plain.clash(word, house[1][told]), point in pair)
        self.assertEqual(seen, {True, False})

    def test_lone_pieces(self):
        self.assertEqual(lot_with_ends(BOTH, 1, ((0, 1),), (0, 1)), (1,))
        self.assertEqual(lot_with_ends(BOTH, 1, ((0, 1),), ()), ())
        self.assertEqual(ring_basis(BOTH, 1, ((0, 1),)), ())
        self.assertIsNone(whole_relation(BOTH, 1, ((0, 1),)))
        for word in point_words(BOTH, 1, ((0, 1),)):
            self.assertTrue(plain.clash(word, "IZ"))

    def test_forty_words(self):
        chance = plain.chance_of(260)
        house = plain.paired_house(chance, 30, 40)
        pairs = pairing_of(house, 0)
        ends = tuple(sorted(chance.sample(range(30), 12)))
        found = lot_with_ends(house, 0, pairs, ends)
        self.assertEqual(plain.ends(pairs, found), ends)
        rings = ring_basis(house, 0, pairs)
        self.assertEqual(len(rings), 40 - 30 + 1)
        self.assertTrue(all(plain.ends(pairs, ring) == () for ring in rings))
        words = point_words(house, 0, pairs)
        for told, pair in enumerate(pairs):
            for point, word in enumerate(words):
                self.assertIs(plain.clash(word, house[1][told]), point in pair)

    def test_examples(self):
        self.assertEqual(lot_with_ends(LINE, 0, ((0, 1), (1, 2), (2, 3)), (0, 2)), (0, 1))
        self.assertEqual(ring_basis(TRIO, 0, TRIANGLE), ((0, 1, 2),))
        self.assertIsNone(whole_relation(TRIO, 0, TRIANGLE))
        self.assertEqual(whole_relation(TRIO, 0, STAR), (0, 1, 2))
        self.assertEqual(point_words(TRIO, 0, TRIANGLE), ("Y", "Z", "X"))
        self.assertEqual(whole_relation(FIVE, 0, CHAIN), (0, 2, 4))
        with self.assertRaises(Odd) as caught:
            point_words(TRIO, 0, STAR)
        self.assertEqual(caught.exception.lot, (0, 1, 2))
        with self.assertRaises(Unlike) as caught:
            pairing_of(SIX, 0)
        self.assertEqual(caught.exception.kind, "strict")
        self.assertEqual(pieces_of(SIX), ((0, 1, 2, 3, 4, 5),))


if __name__ == "__main__":
    unittest.main()

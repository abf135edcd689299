"""[33] meetings, [34] coins, [35] let lots."""

import unittest

from clashborn.coinwork import coins_after, coins_of
from clashborn.errors import NotUsable, Ringed
from clashborn.lettings import is_let, shift_of, side_of
from clashborn.meetings import is_still, meeting_of, meetings_of
from clashborn.pairings import pairing_of
from clashborn.piecekinds import kind_of
from tests import plain
from tests.plain import BOTH, DUO, FIVE, LINE, MORE, ROW, SIX, TRIO

PAIRS = ((0, 1), (1, 2), (2, 3), (3, 4), (4, 5))
# A row of five words with six points, beside a swept and a lone piece.
MIXED = (6, tuple(word + "III" for word in ROW[1]) + ("IIIXII", "IIIZII", "IIIIIX"))
# Six points with a whole relation, and two pieces with a relation over both.
WHOLE = (3, ("XII", "ZZI", "IXI", "IZZ", "IIX"))
SHARED = (4, ("XIII", "ZZII", "IXII", "IIXI", "IIZZ", "XXIX"))


def houses():
    chance = plain.chance_of(330)
    found = [LINE, TRIO, FIVE, SIX, MORE, BOTH, DUO, ROW, WHOLE, SHARED, (1, ()), (2, ("XI", "IX", "XX"))]
    found += [plain.random_house(chance, places, many) for places in (1, 2, 3, 3) for many in (2, 4, 5)]
    found += [plain.paired_house(chance, 6, 5), plain.paired_house(chance, 6, 6), plain.six_house(chance, 7)]
    return found


def some_words(house, seed):
    chance = plain.chance_of(seed)
    if house[0] < 3:
        return plain.all_words(house[0])
    return ["I" * house[0]] + list(house[1][:2]) + [plain.random_word(chance, house[0]) for _ in range(12)]


class MeetingsTest(unittest.TestCase):
    def test_meetings(self):
        seen = set()
        for house in houses():
            pieces = plain.pieces(house)
            for word in some_words(house, 331):
                wanted = tuple(plain.meeting(house, word, lot) for lot in pieces)
                self.assertEqual(meetings_of(house, word), wanted)
                for piece, way in enumerate(wanted):
                    self.assertEqual(meeting_of(house, word, piece), way)
                self.assertIs(is_still(house, word), set(wanted) <= {"unmet"})
                seen.update(wanted)
        self.assertEqual(seen, {"unmet", "lone", "swept", "coined"})

    def test_no_pieces(self):
        self.assertEqual(meetings_of((2, ()), "XZ"), ())
        self.assertIs(is_still(word="XZ", house=(2, ())), True)

    def test_ways_side_by_side(self):
        self.assertEqual(meetings_of(MIXED, "ZZZXIX"), ("coined", "swept", "unmet"))
        self.assertEqual(meetings_of(word="ZIIIIZ", house=MIXED), ("coined", "unmet", "lone"))
        self.assertEqual(meeting_of(piece=0, word="IIIIIZ", house=MIXED), "unmet")
        # Five points are swept, six are not; a ring with an odd number of clashes sweeps six.
        self.assertEqual(meetings_of((3, ROW[1][:4]), "ZZZ"), ("swept",))
        ringed = (4, tuple(word + "I" for word in ROW[1]) + ("IXXZ",))
        self.assertEqual(meetings_of(ringed, "IIIX"), ("swept",))
        self.assertEqual(meetings_of(ringed, "ZZZI"), ("coined",))

    def test_examples(self):
        self.assertEqual(meetings_of(DUO, "YZ"), ("swept", "lone"))
        self.assertIs(is_still(DUO, "IX"), True)


class CoinsTest(unittest.TestCase):
    def test_coins(self):
        ringed = 0
        for house in houses():
            for piece, lot in enumerate(plain.pieces(house)):
                if kind_of(house, piece) not in ("lone", "paired"):
                    continue
                all_pairs = plain.pairings(house, lot)[::5] if len(lot) < 4 else [pairing_of(house, piece)]
                for pairs in all_pairs:
                    for word in some_words(house, 340):
                        ringed += self.hold(house, piece, lot, pairs, word)
        self.assertGreater(ringed, 0)

    def hold(self, house, piece, lot, pairs, word):
        """Coins and coins behind lots are as defined; 1 if the word is ringed."""
        wanted = plain.coins(house, lot, pairs, word)
        parts = plain.lots_below(len(house[1]))[:20:3]
        if wanted is None:
            for function, more in ((coins_of, ()), (coins_after, (parts[-1],))):
                with self.assertRaises(Ringed) as caught:
                    function(house, piece, pairs, word, *more)
                ring = caught.exception.lot
                self.assertEqual(ring, tuple(sorted(set(ring) & set(lot))))
                self.assertEqual(plain.ends(pairs, [lot.index(k) for k in ring]), ())
                self.assertTrue(plain.clash(plain.lot_total(house, ring), word))
            return 1
        self.assertEqual(coins_of(house, piece, pairs, word), wanted)
        for part in parts:
            ends = plain.ends(pairs, [lot.index(k) for k in part if k in lot])
            self.assertEqual(coins_after(house, piece, pairs, word, part), plain.merged(wanted, ends))
        return 0

    def test_words_that_do_not_meet_and_lone_pieces(self):
        self.assertEqual(coins_of(BOTH, 0, ((0, 1), (1, 2)), "IX"), ())
        self.assertEqual(coins_of(BOTH, 1, ((0, 1),), "IX"), (0,))
        self.assertEqual(coins_of(word="ZI", pairs=((0, 1),), piece=1, house=BOTH), ())
        self.assertEqual(coins_after(BOTH, 1, ((0, 1),), "IX", (0, 1)), (1,))
        self.assertEqual(coins_after(BOTH, 1, ((0, 1),), "ZI", (1, 2)), (0, 1))
        self.assertEqual(coins_after(lot=(0, 1), word="ZI", pairs=((0, 1),), piece=1, house=BOTH), (0, 1))
        self.assertEqual(coins_after(BOTH, 0, ((0, 1), (1, 2)), "IX", (0, 1, 2)), (0, 2))

    def test_halved_coins_have_point_0(self):
        # IZI clashes with the word in the middle alone.
        self.assertEqual(coins_of(ROW, 0, PAIRS, "IZZ"), (0, 1, 2))
        other = tuple((5 - high, 5 - low) for low, high in PAIRS)
        self.assertEqual(coins_of(ROW, 0, other, "IZZ"), (0, 1, 2))
        self.assertEqual(coins_of(ROW, 0, other, "ZZZ"), (5,))

    def test_examples(self):
        self.assertEqual(coins_of(ROW, 0, PAIRS, "ZZZ"), (0,))
        self.assertEqual(coins_after(ROW, 0, PAIRS, "ZZZ", (1,)), (0, 1, 2))
        with self.assertRaises(Ringed) as caught:
            coins_of((2, ("XI", "ZI", "YZ")), 0, ((0, 1), (1, 2), (0, 2)), "IX")
        self.assertEqual(caught.exception.lot, (0, 1, 2))


class LettingsTest(unittest.TestCase):
    def test_sides_and_let_lots(self):
        seen = set()
        for house in houses():
            pieces = plain.pieces(house)
            for word in some_words(house, 350):
                met = plain.met(house, word)
                things = sorted(told for piece in met for told in pieces[piece])
                for lot in plain.lots_of(things)[:400:3]:
                    wanted = {piece: plain.side(house, word, lot, pieces[piece]) for piece in met}
                    for piece in met:
                        self.assertEqual(side_of(house, word, lot, piece), wanted[piece])
                        seen.add((plain.meeting(house, word, pieces[piece]), wanted[piece]))
                    self.assertIs(is_let(house, word, lot), all(side == 0 for side in wanted.values()))
        ways = {("lone", 0), ("swept", 0), ("swept", 1), ("coined", 0), ("coined", 1), ("coined", None)}
        self.assertEqual(seen, ways)

    def test_shifts(self):
        seen = set()
        for house in houses():
            pieces = plain.pieces(house)
            for word in some_words(house, 351):
                met = plain.met(house, word)
                things = sorted(told for piece in met for told in pieces[piece])
                for relation in plain.relations(house, things)[:60]:
                    for piece in met:
                        wanted = plain.shift(house, word, relation, pieces[piece])
                        self.assertEqual(shift_of(house, word, relation, piece), wanted)
                        seen.add((plain.meeting(house, word, pieces[piece]), wanted))
        self.assertEqual(seen, {("lone", 0), ("swept", 0), ("swept", 1), ("coined", 0), ("coined", 1)})

    def test_halved_pieces_have_no_side_1_and_no_shift(self):
        # Six points; the first, third and fifth word have the lone sixth word as their sum.
        house = (3, ROW[1] + ("IIX",))
        seen = set()
        for word in plain.all_words(3):
            if meetings_of(house, word) != ("coined", "lone"):
                continue
            have = len(coins_of(house, 0, PAIRS, word))
            sides = {side_of(house, word, lot, 0) for lot in plain.lots_below(6)}
            self.assertEqual(sides, {0, None} if have == 3 else {0, 1, None})
            self.assertEqual(shift_of(house, word, (0, 2, 4, 5), 0), 0 if have == 3 else 1)
            self.assertEqual(shift_of(house, word, (0, 2, 4, 5), 1), 0)
            seen.add(have)
        self.assertEqual(seen, {1, 3})

    def test_lots_beyond_what_is_met(self):
        for lot in ((5,), (0, 5), (0, 7), (7,)):
            for function, more in ((is_let, ()), (side_of, (0,)), (shift_of, (0,))):
                with self.assertRaises(NotUsable) as caught:
                    function(MIXED, "ZZZIII", lot, *more)
                self.assertEqual((caught.exception.word, caught.exception.at), ("lot", -1))
        self.assertIs(is_let(MIXED, "IIIIII", ()), True)
        for function in (side_of, shift_of):
            with self.assertRaises(NotUsable) as caught:
                function(MIXED, "ZZZIII", (), 1)
            self.assertEqual((caught.exception.word, caught.exception.at), ("piece", -1))
        with self.assertRaises(NotUsable) as caught:
            shift_of(LINE, "XI", (0,), 0)
        self.assertEqual((caught.exception.word, caught.exception.at), ("lot", -1))

    def test_forty_words(self):
        chance = plain.chance_of(352)
        house = plain.paired_house(chance, 41, 40)
        word = house[1][0]
        pairs = pairing_of(house, 0)
        self.assertEqual(coins_of(house, 0, pairs, word), pairs[0])
        self.assertEqual(meetings_of(house, word), ("coined",))
        for lot in ((0,), (1,), tuple(range(40))):
            after = len(coins_after(house, 0, pairs, word, lot))
            self.assertIs(is_let(house, word, lot), after == 2)

    def test_examples(self):
        self.assertEqual(side_of(FIVE, "XI", (2,), 0), 1)
        self.assertEqual(shift_of(FIVE, "XI", (0, 2, 4), 0), 1)


if __name__ == "__main__":
    unittest.main()

"""[67] further words and their kinds, [68] joined pieces and pairings, [69] tips."""

import unittest
from math import comb

from clashborn.comparing import makes_same
from clashborn.errors import NotUsable, Shared, Unlike
from clashborn.furthers import keeps_paired, kind_with, one_pointed, tips_house
from clashborn.housechanges import with_word
from clashborn.joinings import joined_pieces, pairing_with
from clashborn.meetings import is_still
from clashborn.pairings import is_pairing
from clashborn.piecekinds import kinds_of
from clashborn.sharings import share_at
from clashborn.tiework import pieces_of
from clashborn.tips import kept_count, tip_count, tip_word, tip_word_count
from tests import plain
from tests.plain import BOTH, DUO, FIVE, LINE, LONES, MORE, ROW, SHARED, SIX, TRIO, WHOLE

# Six points and a word more, so that one ring has a sum that other words can clash with.
RINGED = (4, ("XIII", "ZIII", "XXII", "IZII", "IXXI", "XIIX"))


def further_words(house):
    return [word for word in plain.all_words(house[0]) if set(word) != {"I"} and word not in house[1]]


def further_lot(house, word):
    """The house with the word, and the piece in which this lies."""
    wider = (house[0], house[1] + (word,))
    return wider, [lot for lot in plain.pieces(wider) if len(house[1]) in lot][0]


def houses():
    """Houses on at most four places, with pieces of all sorts."""
    found = [house for house in plain.small_houses(67) if house[0] <= 3 or len(house[1]) <= 6]
    found += [plain.beside(TRIO, (1, ("Z",))), plain.beside(TRIO, TRIO), plain.beside(LINE, (1, ("X", "Z"))), RINGED]
    found += [(3, ("XII", "IXI", "IIX")), plain.beside(TRIO, (2, ("XI", "IZ"))), plain.beside(LINE, (2, ("XI", "IZ")))]
    found += [(4, ("XIII", "ZIII", "XXII", "IZII")), (4, ("XIII", "ZIII", "XXII", "IZII", "IIIX"))]
    return found


class FurtherTest(unittest.TestCase):
    def test_examples(self):
        self.assertEqual((kind_with(ROW, "IIZ"), kind_with(ROW, "IZZ"), kind_with(SIX, "IIZ")), ("paired", "strict", "loose"))
        self.assertEqual((tips_house(ROW, "IZZ"), tips_house(SIX, "IIZ")), (True, False))
        self.assertEqual((one_pointed(ROW, 0, "IIZ"), one_pointed(ROW, 0, "IZZ")), (True, False))

    def test_kinds_by_trial(self):
        for house in houses():
            kinds = [plain.kind(house, lot) for lot in plain.pieces(house)]
            for word in further_words(house):
                kind = plain.kind(*further_lot(house, word))
                self.assertEqual(kind_with(house, word), kind, (house, word))
                self.assertIs(keeps_paired(house, word), kind in ("lone", "paired"))
                tame = all(kinds[piece] in ("lone", "paired") for piece in plain.met(house, word))
                self.assertIs(tips_house(house, word), tame and kind in ("strict", "loose"), (house, word))

    def test_one_pointed_by_trial(self):
        for house in houses():
            lots = plain.pieces(house)
            for piece, lot in enumerate(lots):
                if plain.kind(house, lot) != "paired":
                    continue
                pairs = plain.pairings_once(house, lot)
                few = len({point for pair in pairs for point in pair}) <= 4
                for word in further_words(house)[::3]:
                    if piece in plain.met(house, word):
                        coins = plain.coins(house, lot, pairs, word)
                        self.assertIs(one_pointed(house, piece, word), few or (coins is not None and len(coins) == 1))

    def refused(self, function, *args):
        with self.assertRaises(NotUsable) as caught:
            function(*args)
        return (caught.exception.word, caught.exception.at)

    def test_one_pointed_refuses_in_its_order(self):
        both = plain.beside(SIX, LINE)
        for piece in (0, 2, -1, True, None, "0", (), [1]):
            self.assertEqual(self.refused(one_pointed, both, piece, "IIIIZ"), ("piece", -1))
            # The piece comes ahead of the word.
            self.assertEqual(self.refused(one_pointed, both, piece, "IIIII"), ("piece", -1))
        for word in ("IIIII", "XIIII", "IIIZZ", "X", None, 1, True, ("IIIIZ",)):
            self.assertEqual(self.refused(one_pointed, both, 1, word), ("word", -1))
        # A further word that does not meet the piece: the piece once more.
        self.assertEqual(self.refused(one_pointed, both, 1, "IZIII"), ("word", -1))
        self.assertEqual(self.refused(one_pointed, both, 1, "YIIII"), ("piece", -1))
        self.assertEqual(self.refused(one_pointed, BOTH, 1, "YI"), ("piece", -1))
        self.assertIs(one_pointed(both, 1, "IIIIZ"), True)

    def test_blank_and_told_words_are_no_further_words(self):
        for function in (kind_with, keeps_paired, tips_house, pairing_with):
            for word in ("II", "XI", "ZZ", "IX", "X", "XII", None, True, 0, ("IZ",), "xz", ""):
                self.assertEqual(self.refused(function, LINE, word), ("word", -1))
            function(LINE, "IZ")

    def test_no_told_words(self):
        self.assertEqual(kind_with((2, ()), "XI"), "lone")
        self.assertIs(keeps_paired((2, ()), "XI"), True)
        self.assertIs(tips_house((2, ()), "XI"), False)

    def test_a_full_house(self):
        chance = plain.chance_of(5)
        for house in (plain.paired_house(chance, 20, 40), plain.six_house(chance, 40), plain.random_house(chance, 60, 40)):
            for _ in range(10):
                word = plain.random_word(chance, house[0])
                wider = with_word(house, word)
                self.assertEqual(kind_with(house, word), kinds_of(wider)[[40 in lot for lot in pieces_of(wider)].index(True)])
                self.assertIs(type(tips_house(house, word)), bool)


class JoinedTest(unittest.TestCase):
    def test_examples(self):
        self.assertEqual(joined_pieces((2, ("XI", "ZI", "IX")), "ZZ"), (0, 1, 2))

    def test_plain(self):
        for house in houses():
            lots = plain.pieces(house)
            for word in plain.all_words(house[0]):
                joined = tuple(sorted(told for piece in plain.met(house, word) for told in lots[piece]))
                self.assertEqual(joined_pieces(house, word), joined)

    def test_blank_and_told_words(self):
        self.assertEqual((joined_pieces(LINE, "II"), joined_pieces(LINE, "XI"), joined_pieces(DUO, "IX")), ((), (0, 1, 2), ()))
        self.assertEqual(joined_pieces((1, ()), "X"), ())

    def test_pairings(self):
        for house in houses():
            for word in further_words(house):
                wider, lot = further_lot(house, word)
                kind = plain.kind(wider, lot)
                if kind in ("lone", "paired"):
                    pairs = pairing_with(house, word)
                    self.assertTrue(plain.is_pairing(wider, lot, pairs), (house, word))
                    self.assertTrue(is_pairing(wider, plain.pieces(wider).index(lot), pairs))
                else:
                    with self.assertRaises(Unlike) as caught:
                        pairing_with(house, word)
                    self.assertEqual(caught.exception.kind, kind)

    def test_a_lone_further_word(self):
        self.assertEqual(pairing_with(LINE, "XX"), ((0, 1),))


class TipsTest(unittest.TestCase):
    def test_examples(self):
        self.assertEqual((kept_count(LINE), kept_count(ROW)), (16, 44))
        self.assertEqual((tip_count(ROW), tip_count(FIVE)), (20, 0))
        self.assertEqual((tips_house(ROW, tip_word(ROW, 0)), tip_word(FIVE, 0), tip_word_count(ROW, 0)), (True, None, 20))

    def test_counts_by_trial(self):
        many = 0
        for house in houses() + [plain.beside(ROW, (1, ("X",))), plain.beside(TRIO, plain.beside((1, ("Z",)), TRIO))]:
            kinds = [plain.kind(house, lot) for lot in plain.pieces(house)]
            clear = plain.sharing(house, range(len(kinds))) is None
            if clear and not {"strict", "loose"} & set(kinds):
                tips = [word for word in further_words(house) if plain.kind(*further_lot(house, word)) in ("strict", "loose")]
                self.assertEqual(tip_count(house), len(tips), house)
                self.assertEqual(kept_count(house), 4 ** house[0] - len(tips))
                many += 1
        self.assertGreater(many, 25)

    def test_tip_words_by_trial(self):
        seen = set()
        for house in houses() + [plain.beside(WHOLE, (1, ("X",))), plain.beside(SIX, (1, ("X",)))]:
            for piece, lot in enumerate(plain.pieces(house)):
                if plain.kind(house, lot) not in ("lone", "paired"):
                    continue
                tips = [word for word in further_words(house) if plain.met(house, word) == (piece,)
                        and plain.kind(*further_lot(house, word)) in ("strict", "loose")]
                self.assertEqual(tip_word_count(house, piece), len(tips), (house, piece))
                self.assertIs(type(tip_word_count(house, piece)), int)
                found = tip_word(house, piece)
                if tips:
                    self.assertIn(found, tips)
                else:
                    self.assertIsNone(found)
                seen.add((len(lot) > 4, tips == []))
        # With one word more, four words are too few to break all pairings.
        self.assertEqual(seen, {(False, True), (True, True), (True, False)})

    def test_strict_and_loose_pieces_are_refused(self):
        # A piece without a pairing is told ahead of pieces that share.
        for house in (SIX, MORE, plain.beside(LINE, SIX), plain.beside(SHARED, SIX), plain.beside(SIX, SHARED)):
            for function in (kept_count, tip_count):
                with self.assertRaises(NotUsable) as caught:
                    function(house)
                self.assertEqual((caught.exception.word, caught.exception.at), ("house", -1))

    def test_pieces_that_share_are_refused(self):
        for house, piece in ((SHARED, 1), (LONES, 2), (plain.beside(TRIO, LONES), 3), (plain.beside(LONES, SHARED), 2)):
            self.assertEqual(share_at(house, tuple(range(len(pieces_of(house))))), piece)
            for function in (kept_count, tip_count):
                with self.assertRaises(Shared) as caught:
                    function(house)
                self.assertEqual(caught.exception.piece, piece)

    def test_tip_words_where_pieces_share(self):
        # A large piece that shares with a lone one: the lone one takes some of the words.
        row = ("XIIII", "ZIIII", "XXIII", "IZIII", "IXXII")
        ringed = (5, row + ("IZIIX",))
        for house in (ringed, (5, ringed[1] + ("IIIIX",)), (5, row + ("IIXII",)), (5, row + ("XIXII",))):
            lots = plain.pieces(house)
            for piece, lot in enumerate(lots):
                tips = [word for word in further_words(house) if plain.met(house, word) == (piece,)
                        and tips_house(house, word)]
                self.assertEqual(tip_word_count(house, piece), len(tips), (house, piece))
                found = tip_word(house, piece)
                self.assertTrue(found in tips if tips else found is None, (house, piece))

    def test_other_pieces_may_be_of_any_kind(self):
        for house in (plain.beside(SIX, ROW), plain.beside(ROW, MORE)):
            piece = kinds_of(house).index("paired")
            found = tip_word(house, piece)
            self.assertIs(tips_house(house, found), True)
            self.assertEqual(plain.met(house, found), (piece,))
            self.assertEqual(tip_word_count(house, piece), 20 << (2 * house[0] - 6 - 6))
            with self.assertRaises(NotUsable) as caught:
                tip_word(house, 1 - piece)
            self.assertEqual(caught.exception.word, "piece")

    def test_rows_of_all_lengths(self):
        for points in range(2, 20):
            house = (20, tuple(row_words(20, points)))
            kept = 1 + (2 ** (points - 1) - 1 if points <= 4 else points + comb(points, 2))
            if points == 2:
                kept = 2
            self.assertEqual(kept_count(house), kept * 2 ** (40 - points + 1))
            self.assertEqual(tip_count(house), 4 ** 20 - kept_count(house))
            self.assertEqual(tip_word_count(house, 0), tip_count(house))
            self.assertEqual(tip_word(house, 0) is None, points <= 5)

    def test_whole_relations(self):
        # With a whole relation on six points no three coins can be had, with one on eight points four can.
        for half, tips in ((2, False), (3, True), (4, True)):
            house = plain.whole_house(plain.chance_of(half), half)
            self.assertEqual(tip_word(house, 0) is not None, tips)
            self.assertEqual(tip_word_count(house, 0) > 0, tips)
            self.assertEqual(tip_count(house), tip_word_count(house, 0))
            if tips:
                self.assertIs(tips_house(house, tip_word(house, 0)), True)

    def test_at_the_limits(self):
        chance = plain.chance_of(69)
        found = [plain.paired_house(chance, points, 40) for points in (5, 6, 12, 30)]
        for house in found + [plain.whole_house(chance, 15, 9, 9), plain.ringed_house(chance, 9, 35)]:
            for piece, kind in enumerate(kinds_of(house)):
                if kind in ("lone", "paired"):
                    word = tip_word(house, piece)
                    self.assertEqual(word is None, tip_word_count(house, piece) == 0)
                    if word is not None:
                        self.assertIs(tips_house(house, word), True)
                        self.assertIs(is_still((house[0], tuple(told for k, told in enumerate(house[1])
                                                                if k not in pieces_of(house)[piece])), word), True)
            if not {"strict", "loose"} & set(kinds_of(house)) and share_at(house, tuple(range(len(kinds_of(house))))) is None:
                self.assertEqual(kept_count(house) + tip_count(house), 4 ** house[0])

    def test_no_told_words(self):
        self.assertEqual((kept_count((3, ())), tip_count((3, ()))), (64, 0))
        self.assertTrue(makes_same((3, ()), (3, ())))


def row_words(places, points):
    """A row of words on so many points, each clashing with its neighbours alone."""
    found = []
    for k in range(points - 1):
        half = k // 2
        if k % 2:
            found.append("I" * half + "Z" + "I" * (places - half - 1))
        else:
            found.append("".join("X" if at in (half, half - 1) and at >= 0 else "I" for at in range(places)))
    return found


if __name__ == "__main__":
    unittest.main()

"""[29] kinds, [30] signs, [31] papers of kinds and Piece."""

import unittest
from unittest import mock

from clashborn.errors import InvalidPaper, NotUsable, Odd
from clashborn.kindpapers import kind_paper, lets_kind
from clashborn.piececlasses import Piece
from clashborn.piecekinds import kind_of, kinds_of, odd_relation
from clashborn.signs import house_sign, sign_by, sign_word
from tests import plain
from tests.plain import BOTH, FIVE, LINE, LONG, MORE, SIX, TRIO


def houses():
    """Houses with pieces of all kinds, small enough for plain trial."""
    chance = plain.chance_of(290)
    found = [LINE, TRIO, FIVE, BOTH, SIX, MORE, LONG, (2, ("XI", "IX", "XX")), (1, ()), (3, ())]
    found += [plain.random_house(chance, places, many) for places in (1, 2, 3, 3, 4) for many in (1, 2, 4, 5)]
    found += [plain.six_house(chance, many) for many in (6, 7, 8, 9)]
    both = tuple("IIII" + word for word in SIX[1]) + ("IIIZIII",) + tuple(word + "IIII" for word in MORE[1])
    found.append((7, both))
    return found


def cut(house, lot):
    """The house with the words of the lot alone."""
    return (house[0], tuple(house[1][k] for k in lot))


class KindsTest(unittest.TestCase):
    def test_kinds(self):
        seen = set()
        for house in houses():
            pieces = plain.pieces(house)
            wanted = tuple(plain.kind(house, lot) for lot in pieces)
            self.assertEqual(kinds_of(house), wanted)
            self.assertEqual(tuple(kind_of(house, piece) for piece in range(len(pieces))), wanted)
            seen.update(wanted)
        self.assertEqual(seen, {"lone", "paired", "strict", "loose"})
        self.assertEqual(kinds_of((60, ())), ())
        self.assertEqual(kind_of(piece=0, house=SIX), "strict")

    def test_odd_relations(self):
        for house in houses():
            for piece, lot in enumerate(plain.pieces(house)):
                odds = [part for part in plain.relations(house, lot) if plain.odd(house, part)]
                found = odd_relation(house, piece)
                if odds:
                    self.assertIn(found, odds)
                else:
                    self.assertIsNone(found)
        # A paired piece may have an odd relation, too.
        self.assertEqual(odd_relation(FIVE, 0), (0, 2, 4))
        self.assertEqual(kind_of(FIVE, 0), "paired")

    def test_forty_words(self):
        chance = plain.chance_of(291)
        self.assertEqual(kinds_of((60, tuple("I" * k + "X" + "I" * (59 - k) for k in range(40)))), ("lone",) * 40)
        self.assertEqual(kinds_of(plain.paired_house(chance, 30, 40)), ("paired",))
        self.assertIn(kinds_of(plain.random_house(chance, 60, 40)), (("strict",), ("loose",)))
        self.assertEqual(kinds_of(plain.six_house(chance, 40)), ("loose",))

    def test_examples(self):
        self.assertEqual(kinds_of(BOTH), ("paired", "lone"))
        self.assertEqual(kind_of(MORE, 0), "loose")
        self.assertEqual(odd_relation(MORE, 0), (3, 5, 6))


class SignsTest(unittest.TestCase):
    def is_sign_word(self, house, lot, word):
        return len(word) == house[0] and all(
            plain.clash(word, house[1][k]) == (house[1][k].count("Y") % 2 == 0) for k in lot
        )

    def hold(self, house, lot, function, *args):
        """The function gives a sign word of the lot, or Odd with one of its odd relations."""
        odds = [part for part in plain.relations(house, lot) if plain.odd(house, part)]
        if not odds:
            self.assertTrue(self.is_sign_word(house, lot, function(*args)))
            return
        with self.assertRaises(Odd) as caught:
            function(*args)
        self.assertIn(caught.exception.lot, odds)

    def test_sign_words(self):
        for house in houses():
            for piece, lot in enumerate(plain.pieces(house)):
                self.hold(house, lot, sign_word, house, piece)
            if len(house[1]) < 11:
                self.hold(house, tuple(range(len(house[1]))), house_sign, house)
        self.assertEqual(len(house_sign(house=(60, ()))), 60)
        self.assertEqual(sign_word(piece=0, house=SIX), "YXZ")

    def test_an_odd_relation_over_pieces(self):
        house = (2, ("XI", "IX", "XX"))
        with self.assertRaises(Odd) as caught:
            house_sign(house)
        self.assertEqual(caught.exception.lot, (0, 1, 2))
        for piece in range(3):
            self.assertTrue(self.is_sign_word(house, (piece,), sign_word(house, piece)))

    def test_signs(self):
        for sign in plain.all_words(2):
            for word in plain.all_words(2):
                self.assertEqual(sign_by(sign, word), plain.sign(sign, word))
                self.assertIs(type(sign_by(word=word, sign=sign)), int)

    def test_examples(self):
        self.assertEqual(sign_word(SIX, 0), "YXZ")
        self.assertEqual(sign_by("YXZ", "IIZ"), 0)


class KindPapersTest(unittest.TestCase):
    def test_papers(self):
        for house in houses():
            for piece, lot in enumerate(plain.pieces(house)):
                kind = plain.kind(house, lot)
                paper = kind_paper(house, piece)
                self.assertIs(type(paper), tuple)
                self.assertEqual(paper[0], kind)
                self.assertEqual(lets_kind(house, piece, paper), kind)
                self.hold(house, lot, paper)

    def hold(self, house, lot, paper):
        if paper[0] == "lone":
            self.assertEqual(paper, ("lone",))
        elif paper[0] == "paired":
            self.assertEqual(len(paper), 2)
            self.assertTrue(plain.is_pairing(house, lot, paper[1]))
        else:
            _, ladder, rows, last = paper
            self.assertIs(type(ladder), tuple)
            self.assertIs(type(rows), tuple)
            self.assertLessEqual(len(ladder), 4000)
            self.assertTrue(plain.is_ladder(cut(house, lot), ladder))
            self.assertTrue(all(type(row) is int and 0 <= row < len(ladder) for row in rows))
            self.assertTrue(plain.is_six([ladder[row] for row in rows]))
            if paper[0] == "strict":
                self.assertTrue(all(plain.sign(last, house[1][k]) == 1 for k in lot))
            else:
                self.assertLessEqual(set(last), set(lot))
                self.assertEqual(plain.lot_total(house, last), "I" * house[0])
                self.assertTrue(plain.odd(house, last))

    def test_pieces_of_fifteen_and_of_forty_words(self):
        chance = plain.chance_of(310)
        for many in (15, 40):
            made = [plain.paired_house(chance, 15, many), plain.ringed_house(chance, 12, many - 2)]
            made += [plain.six_house(chance, many), plain.random_house(chance, 60, many)]
            for house in made:
                for piece, lot in enumerate(plain.pieces(house)):
                    paper = kind_paper(house, piece)
                    self.assertEqual(lets_kind(house, piece, paper), kind_of(house, piece))
                    if len(lot) < 16:
                        self.hold(house, lot, paper)

    def refused(self, house, piece, thing, word):
        with self.assertRaises(InvalidPaper) as caught:
            lets_kind(house, piece, thing)
        self.assertEqual((caught.exception.word, caught.exception.at), (word, -1))

    def test_shape(self):
        rows = (0, 1, 2, 3, 4, 5)
        for thing in (None, True, 0, "", "lone", (), ("lone", ()), ["lone"], ("paired",), ("paired", (), ()),
                      ("strict", SIX[1], rows), ("strict", SIX[1], rows, "YXZ", 0), ["strict", SIX[1], rows, "YXZ"],
                      ("loose", SIX[1], rows), ("loose",), ("Lone",), (("lone",),), (None,), (1, 2, 3, 4), ("", 0, 0, 0)):
            self.refused(SIX, 0, thing, "shape")
            self.refused(BOTH, 1, thing, "shape")

    def test_lone_and_paired_papers(self):
        self.assertEqual(lets_kind(BOTH, 1, ("lone",)), "lone")
        self.assertEqual(lets_kind(thing=("paired", ((0, 1), (1, 2))), piece=0, house=BOTH), "paired")
        for house in (LINE, SIX, MORE, BOTH):
            self.refused(house, 0, ("lone",), "many")
        self.refused(BOTH, 1, ("paired", ((0, 1),)), "many")
        self.refused(BOTH, 1, ("paired", None), "many")
        for pairs in (None, (), "", ((0, 1),), ((0, 1), (0, 1)), [(0, 1), (1, 2)], ((0, 1), (1, 3))):
            self.refused(BOTH, 0, ("paired", pairs), "pairs")
        self.refused(SIX, 0, ("paired", ((0, 1),) * 6), "pairs")

    def test_six_papers(self):
        rows = (0, 1, 2, 3, 4, 5)
        for kind, house, last in (("strict", SIX, "YXZ"), ("loose", MORE, (3, 5, 6))):
            self.assertEqual(lets_kind(house, 0, (kind, house[1], rows, last)), kind)
            self.assertEqual(lets_kind(house, 0, (kind, house[1] * 600, rows, last)), kind)
            for ladder in (None, (), [], list(house[1]), ("XXX",), house[1] + (None,), house[1] + ("YYY",), "XII"):
                self.refused(house, 0, (kind, ladder, None, None), "ladder")
            for wrong in (None, 0, (), list(rows), rows[:5], rows + (0,), (0, 1, 2, 3, 4, 7), (0, 1, 2, 3, 4, True),
                          (0, 1, 2, 3, 4, -1), (0, 1, 2, 3, 4, None), "012345", (0, 1, 2, 3, 4, (5,))):
                self.refused(house, 0, (kind, house[1], wrong, None), "rows")
            for wrong in ((0, 1, 2, 3, 4, 4), (1, 0, 2, 3, 4, 5), (0, 0, 0, 0, 0, 0)):
                self.refused(house, 0, (kind, house[1], wrong, None), "six")
        for sign in (None, 0, (), "YX", "YXZI", "XYZ", "III", "yxz", ("YXZ",)):
            self.refused(SIX, 0, ("strict", SIX[1], rows, sign), "sign")
        for lot in (None, 0, "", (), [3, 5, 6], (6, 5, 3), (3, 5), (3, 5, 7), (0, 1, 2), (3, 5, 5, 6), (3, True, 6)):
            self.refused(MORE, 0, ("loose", MORE[1], rows, lot), "lot")
        self.refused(MORE, 0, ("strict", MORE[1], rows, "YXZ"), "sign")
        self.refused(SIX, 0, ("loose", SIX[1], rows, ()), "lot")
        self.refused(LINE, 0, ("strict", LINE[1], (0, 1, 2, 0, 1, 2), "XX"), "six")
        self.refused(BOTH, 1, ("loose", ("IZ",), (0, 0, 0, 0, 0, 0), ()), "six")

    def test_words_of_other_pieces_do_not_count(self):
        # The pieces lie on places of their own; told numbers of the lot are those of the house.
        house = (6, tuple("III" + word for word in SIX[1]) + tuple(word + "III" for word in MORE[1]))
        rows = (0, 1, 2, 3, 4, 5)
        self.assertEqual(lets_kind(house, 1, ("loose", house[1][6:], rows, (9, 11, 12))), "loose")
        self.refused(house, 1, ("loose", house[1][6:], rows, (3, 5, 6)), "lot")
        self.refused(house, 1, ("loose", house[1][:6], rows, (9, 11, 12)), "ladder")
        self.refused(house, 0, ("strict", house[1], rows, "IIIYXZ"), "ladder")
        self.assertEqual(lets_kind(house, 0, ("strict", house[1][:6], rows, "ZXYYXZ")), "strict")
        # An odd relation of the house that is not within the piece.
        both = (5, tuple(word + "II" for word in SIX[1]) + ("IIIXI", "IIIIX", "IIIXX"))
        self.assertTrue(plain.odd(both, (6, 7, 8)))
        self.refused(both, 0, ("loose", both[1][:6], rows, (6, 7, 8)), "lot")

    def test_examples(self):
        rows = (0, 1, 2, 3, 4, 5)
        self.assertEqual(lets_kind(SIX, 0, ("strict", SIX[1], rows, "YXZ")), "strict")
        self.assertEqual(lets_kind(MORE, 0, ("loose", MORE[1], rows, (3, 5, 6))), "loose")


class PieceTest(unittest.TestCase):
    def test_what_a_piece_tells(self):
        for house in houses():
            for number, lot in enumerate(plain.pieces(house)):
                piece = Piece(house, number)
                self.assertEqual(piece.kind(), plain.kind(house, lot))
                self.assertEqual(piece.told(), lot)
                self.assertEqual(lets_kind(house, number, piece.paper()), piece.kind())
                if odd_relation(house, number) is None:
                    word = piece.sign()
                    self.assertTrue(all(plain.sign(word, house[1][k]) == 1 for k in lot))
                else:
                    with self.assertRaises(Odd) as caught:
                        piece.sign()
                    self.assertTrue(plain.odd(house, caught.exception.lot))

    def test_made_words(self):
        for house in houses():
            if house[0] > 4:
                continue
            for number, lot in enumerate(plain.pieces(house)):
                made = plain.made_words(cut(house, lot))
                piece = Piece(house, number)
                for word in plain.all_words(house[0])[::3] + sorted(made)[:40]:
                    self.assertIs(piece.made(word), word in made)
        self.assertIs(Piece(house=BOTH, piece=1).made(word="IZ"), True)
        self.assertIs(Piece(BOTH, 1).made("II"), False)

    def test_made_words_of_large_pieces(self):
        chance = plain.chance_of(311)
        house = plain.random_house(chance, 60, 40)
        piece = Piece(house, 0)
        word = house[1][0]
        for _ in range(100):
            by = chance.choice(house[1])
            word = plain.plus(word, by) if plain.clash(word, by) else word
        self.assertIs(piece.made(word), True)
        self.assertIs(piece.made("I" * 60), False)

    def test_equal(self):
        self.assertTrue(Piece(BOTH, 0) == Piece((2, ("XI", "IZ", "ZI")), 0))
        self.assertFalse(Piece(BOTH, 0) != Piece(BOTH, 0))
        for other in (Piece(BOTH, 1), Piece(LINE, 0), (BOTH, 0), BOTH, 0, False, None, "lone", mock.ANY):
            self.assertFalse(Piece(BOTH, 0) == other)
            self.assertTrue(Piece(BOTH, 0) != other)

    def test_house_that_is_none(self):
        for house in (None, (0, ()), [1, ("X",)], (1, ("X", "X"))):
            for piece in (0, None):
                with self.assertRaises(NotUsable) as caught:
                    Piece(house, piece)
                self.assertEqual((caught.exception.word, caught.exception.at), ("house", -1))
        with self.assertRaises(NotUsable) as caught:
            Piece((10 ** 50, ()), 0)
        self.assertEqual((caught.exception.word, caught.exception.at), ("piece", -1))


if __name__ == "__main__":
    unittest.main()

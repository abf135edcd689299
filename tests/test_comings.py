"""[36] what comes of a word, [37] refusals."""

import unittest

from clashborn.comings import comes_of, lot_from
from clashborn.errors import InvalidPaper
from clashborn.lettings import is_let, shift_of, side_of
from clashborn.meetings import meeting_of
from clashborn.pairings import is_pairing, pairing_of
from clashborn.piecekinds import kind_of
from clashborn.coinwork import coins_after, coins_of
from clashborn.refusals import lets_refusal, refusal_of
from tests import plain
from tests.plain import BOTH, DUO, FIVE, LINE, LONG, MORE, ROW, SIX, TRIO

PAIRS = ((0, 1), (1, 2), (2, 3), (3, 4), (4, 5))
# Six points with the whole relation (0, 4, 5), and two pieces that share the word IIZZ.
WHOLE = (3, ("XII", "ZII", "XXI", "IZI", "IXX", "XXX"))
SHARED = (4, ("XIII", "ZIII", "YIXI", "IXII", "IZII", "IYXI"))


def houses():
    chance = plain.chance_of(360)
    found = [LINE, TRIO, FIVE, SIX, MORE, BOTH, DUO, ROW, WHOLE, SHARED, (1, ()), (2, ("XI", "IX", "XX")), LONG]
    found += [plain.random_house(chance, places, many) for places in (1, 2, 3, 3, 4) for many in (1, 3, 4, 6, 8)]
    found += [plain.six_house(chance, many) for many in (6, 7, 8, 9)]
    found += [(4, tuple(word + "I" for word in ROW[1]) + ("IIIX", tail)) for tail in ("IIIZ", "IXXI", "IIIY")]
    return found


def pairs_of_words():
    """Triples (house, word, other): all others on few places, of some words."""
    chance = plain.chance_of(361)
    for house in houses():
        words = plain.all_words(house[0])
        for word in chance.sample(words, min(len(words), 6)):
            for other in words:
                yield house, word, other


def refused(case, wanted, house, word, other, thing):
    with case.assertRaises(InvalidPaper) as caught:
        lets_refusal(house, word, other, thing)
    case.assertEqual((caught.exception.word, caught.exception.at), wanted)


class ComingsTest(unittest.TestCase):
    def test_against_plain_walking(self):
        walks = {}
        for house, word, other in pairs_of_words():
            if (house, word) not in walks:
                walks[house, word] = plain.walked(house, word)
            comes = other in walks[house, word]
            self.assertIs(comes_of(house, word, other), comes, (house, word, other))
            lot = lot_from(house, word, other)
            refusal = refusal_of(house, word, other)
            if comes:
                self.assertIs(type(lot), tuple)
                self.assertEqual(plain.lot_total(house, lot), plain.plus(word, other))
                self.assertIs(is_let(house, word, lot), True)
                self.assertIsNone(refusal)
            else:
                self.assertIsNone(lot)
                self.assertEqual(lets_refusal(house, word, other, refusal), refusal[0])

    def test_words_that_meet_nothing(self):
        self.assertIs(comes_of((2, ()), "XZ", "XZ"), True)
        self.assertIs(comes_of(other="XX", word="XZ", house=(2, ())), False)
        self.assertEqual(lot_from((2, ()), "XZ", "XZ"), ())
        self.assertEqual(refusal_of((1, ()), "X", "Z")[0], "apart")
        self.assertEqual(lot_from(word="II", other="II", house=LINE), ())
        self.assertIsNone(lot_from(LINE, "II", "XX"))

    def test_each_met_piece_stays_met(self):
        # By an even lot with the sum IIZI, other meets the second piece still, but not the first one.
        house = plain.beside(SIX, (1, ("X",)))
        self.assertIs(comes_of(house, "IIZZ", "IIIZ"), False)
        self.assertEqual(refusal_of(house, "IIZZ", "IIIZ"), ("still", 0))
        turned = plain.beside((1, ("X",)), SIX)
        self.assertEqual(refusal_of(turned, "ZIIZ", "ZIII"), ("still", 1))
        self.assertEqual(refusal_of(plain.beside(SIX, SIX), "IIZIIZ", "IIIIII"), ("still", 0))

    def test_forty_words_on_sixty_places(self):
        chance = plain.chance_of(362)
        made = [plain.random_house(chance, 60, 40), plain.paired_house(chance, 41, 40), plain.ringed_house(chance, 30, 38)]
        made += [plain.paired_house(chance, 25, 40), plain.six_house(chance, 40)]
        made.append((60, tuple("I" * k + "X" + "I" * (59 - k) for k in range(40))))
        for house in made:
            for _ in range(4):
                word = plain.random_word(chance, house[0])
                other = word
                for _ in range(200):
                    by = chance.choice(house[1])
                    other = plain.plus(other, by) if plain.clash(other, by) else other
                self.assertIs(comes_of(house, word, other), True)
                lot = lot_from(house, word, other)
                self.assertIs(is_let(house, word, lot), True)
                self.assertEqual(plain.lot_total(house, lot), plain.plus(word, other))
                for far in (plain.random_word(chance, house[0]), plain.plus(word, house[1][0]),
                            plain.plus(word, plain.lot_total(house, range(0, 40, 3)))):
                    refusal = refusal_of(house, word, far)
                    self.assertIs(comes_of(house, word, far), refusal is None)
                    self.assertIs(lot_from(house, word, far) is None, refusal is not None)
                    if refusal is not None:
                        self.assertEqual(lets_refusal(house, word, far, refusal), refusal[0])

    def test_examples(self):
        self.assertEqual(lot_from(FIVE, "XI", "XX"), (0, 4))
        self.assertEqual(refusal_of(SIX, "XII", "IIZ"), ("signs", (0, 3, 5), (0,)))
        self.assertEqual(lets_refusal(ROW, "ZZZ", "IZZ", ("coins", 0, PAIRS, (1,))), "coins")


class RefusalsTest(unittest.TestCase):
    def test_refusals_hold_against_the_definition(self):
        seen = set()
        for house, word, other in pairs_of_words():
            refusal = refusal_of(house, word, other)
            if refusal is not None:
                self.assertIs(type(refusal), tuple)
                seen.add(refusal[0])
                if len(seen) < 4 or len(house[1]) < 5 or other < "X":
                    self.assertTrue(self.holds(house, word, other, refusal), (house, word, other, refusal))
        self.assertEqual(seen, {"still", "apart", "coins", "signs"})

    def holds(self, house, word, other, refusal):
        pieces = plain.pieces(house)
        met = plain.met(house, word)
        things = tuple(sorted(told for piece in met for told in pieces[piece]))
        summed = plain.plus(word, other)
        if refusal[0] == "still":
            return refusal[1] in met and refusal[1] not in plain.met(house, other)
        if refusal[0] == "apart":
            return plain.clash(refusal[1], summed) and not any(plain.clash(refusal[1], house[1][k]) for k in things)
        lot = refusal[3] if refusal[0] == "coins" else refusal[1]
        if not set(lot) <= set(things) or plain.lot_total(house, lot) != summed:
            return False
        if refusal[0] == "coins":
            _, piece, pairs, lot = refusal
            have = len(coins_of(house, piece, pairs, word))
            after = len(coins_after(house, piece, pairs, word, lot))
            points = len({point for pair in pairs for point in pair})
            return piece in met and kind_of(house, piece) == "paired" and is_pairing(house, piece, pairs) \
                and after not in (have, points - have)
        sides = [side_of(house, word, lot, piece) for piece in refusal[2]]
        shifts = [sum(shift_of(house, word, relation, piece) for piece in refusal[2]) % 2
                  for relation in plain.relations(house, things)]
        bound = [meeting_of(house, word, piece) in ("swept", "coined") for piece in refusal[2]]
        return all(bound) and None not in sides and sum(sides) % 2 == 1 and not any(shifts)

    def test_shape(self):
        for thing in (None, True, 0, "", "still", (), ("still",), ("still", 0, 0), ["still", 0], ("apart",),
                      ("apart", "X", 0), ("coins", 0, PAIRS), ("coins", 0, PAIRS, (), 0), ("signs", ()),
                      ("signs", (), (), ()), ("lot", ()), ("Still", 0), (("still",), 0), (None, 0), (0, 1), ("", "")):
            refused(self, ("shape", -1), LINE, "XI", "II", thing)

    def test_still(self):
        house = (3, ("XII", "IXI", "IIX"))
        self.assertEqual(lets_refusal(house, "ZZI", "ZII", ("still", 1)), "still")
        for piece in (2, 3, -1, True, False, None, "0", (1,), 10 ** 40):
            refused(self, ("piece", -1), house, "ZZI", "ZII", ("still", piece))
        refused(self, ("meets", -1), house, "ZZI", "ZII", ("still", 0))
        refused(self, ("meets", -1), house, "ZZI", "ZZI", ("still", 1))

    def test_apart(self):
        house = (3, ("IXI", "XII", "IZI", "IIX"))
        # ZII meets the piece of XII alone; the sum of ZII and ZXI is IXI.
        self.assertEqual(lets_refusal(house, "ZII", "ZXI", ("apart", "IZI")), "apart")
        self.assertEqual(lets_refusal(thing=("apart", "XZX"), other="ZXI", word="ZII", house=house), "apart")
        for check in (None, 0, True, "", "IZ", "IZII", "izi", ("IZI",), ["IZI"], ()):
            refused(self, ("check", -1), house, "ZII", "ZXI", ("apart", check))
        refused(self, ("clash", 1), house, "ZII", "ZXI", ("apart", "ZZI"))
        refused(self, ("apart", -1), house, "ZII", "ZXI", ("apart", "IIZ"))
        refused(self, ("apart", -1), house, "ZII", "ZXI", ("apart", "IXI"))
        # ZXI meets two pieces: of those whose words clash with the check, the least told number is told.
        refused(self, ("clash", 0), house, "ZXI", "ZXX", ("apart", "ZZI"))
        refused(self, ("clash", 1), house, "ZXI", "ZXX", ("apart", "ZIZ"))
        refused(self, ("clash", 2), house, "ZXI", "ZXX", ("apart", "IXZ"))
        self.assertEqual(lets_refusal(house, "ZXI", "ZXX", ("apart", "IIZ")), "apart")

    def test_coins(self):
        house = (5, tuple(word + "II" for word in ROW[1]) + ("IIIXI", "IIIZI", "IIIIX"))
        word, other = "ZZZII", "IZZII"
        self.assertEqual(lets_refusal(house, word, other, ("coins", 0, PAIRS, (1,))), "coins")
        for piece in (1, 2, 3, -1, True, False, None, "0", (0,)):
            refused(self, ("piece", -1), house, word, other, ("coins", piece, PAIRS, (1,)))
        # A met piece that is lone, strict or loose is of another kind.
        refused(self, ("piece", -1), house, "ZZZIZ", "IZZIZ", ("coins", 2, ((0, 1),), (1,)))
        refused(self, ("piece", -1), SIX, "XII", "IIZ", ("coins", 0, PAIRS + ((2, 6),), (0, 3, 5)))
        refused(self, ("piece", -1), MORE, "XII", "IIZ", ("coins", 0, PAIRS, (0, 3, 5)))
        for pairs in (None, (), list(PAIRS), PAIRS[:4], PAIRS[:4] + ((3, 5),), "0-1", PAIRS[:4] + ((4, True),)):
            refused(self, ("pairs", -1), house, word, other, ("coins", 0, pairs, (1,)))
        for lot in (None, 0, "", [1], (1, 0), (1, 5), (1, 7), (8,), (True,), (1, 1), ((1,),)):
            refused(self, ("lot", -1), house, word, other, ("coins", 0, PAIRS, lot))
        for lot in ((), (0,), (0, 1), (2, 3)):
            refused(self, ("sum", -1), house, word, other, ("coins", 0, PAIRS, lot))
        refused(self, ("let", -1), house, word, "YZZII", ("coins", 0, PAIRS, (0,)))
        refused(self, ("let", -1), house, word, word, ("coins", 0, PAIRS, ()))
        # The whole relation (0, 4, 5) leaves as many coins as all points less the coins.
        pairs = pairing_of(WHOLE, 0)
        have = {word: plain.coins(WHOLE, tuple(range(6)), pairs, word) for word in plain.all_words(3)}
        coined = [word for word in have if have[word]]
        self.assertGreater(len(coined), 10)
        for word in coined:
            refused(self, ("let", -1), WHOLE, word, word, ("coins", 0, pairs, (0, 4, 5)))

    def test_ringed_pairs_refuse_nothing(self):
        house = (2, ("XI", "ZI", "YZ"))
        refused(self, ("ring", -1), house, "IX", "IX", ("coins", 0, ((0, 1), (1, 2), (0, 2)), None))
        refused(self, ("lot", -1), house, "IX", "IX", ("coins", 0, ((0, 3), (1, 3), (2, 3)), None))

    def test_coins_on_swept_pieces(self):
        # Each pairing by which the word has coins may stand in a paper, also one with few points.
        self.assertEqual(plain.coins(LINE, (0, 1, 2), ((0, 1), (1, 2), (2, 3)), "ZI"), (0,))
        refused(self, ("let", -1), LINE, "ZI", "YI", ("coins", 0, ((0, 1), (1, 2), (2, 3)), (0,)))
        line = (3, ROW[1][:4])
        pairs = PAIRS[:4]
        for word in plain.all_words(3):
            for lot in plain.lots_below(4):
                other = plain.plus(word, plain.lot_total(line, lot))
                if not plain.met(line, word):
                    continue
                have = len(coins_of(line, 0, pairs, word))
                after = len(coins_after(line, 0, pairs, word, lot))
                if after in (have, 5 - have):
                    refused(self, ("let", -1), line, word, other, ("coins", 0, pairs, lot))
                else:
                    self.assertEqual(lets_refusal(line, word, other, ("coins", 0, pairs, lot)), "coins")
                    self.assertIs(comes_of(line, word, other), False)

    def test_signs(self):
        for lot in (None, 0, "", [0, 3, 5], (3, 0), (0, 6), (True,), (0, 0), ((0,),)):
            refused(self, ("lot", -1), SIX, "XII", "IIZ", ("signs", lot, (0,)))
        for lot in ((), (0,), (0, 3)):
            refused(self, ("sum", -1), SIX, "XII", "IIZ", ("signs", lot, (0,)))
        for pieces in (None, 0, "", (), [0], (1,), (0, 0), (True,), (False,), (0, 1), (-1,), ((0,),), "0"):
            refused(self, ("pieces", -1), SIX, "XII", "IIZ", ("signs", (0, 3, 5), pieces))
        refused(self, ("even", -1), SIX, "XII", "YII", ("signs", (1,), (0,)))
        refused(self, ("shift", -1), MORE, "XII", "IIZ", ("signs", (0, 3, 5), (0,)))
        self.assertEqual(lets_refusal(SIX, "XII", "IIZ", ("signs", (0, 3, 5), (0,))), "signs")

    def test_signs_of_many_pieces(self):
        house = (6, tuple(word + "III" for word in SIX[1]) + ("IIIXII", "IIIIXI", "IIIIZI", "IIIIIX"))
        word = "XIIZXI"
        lot = (0, 3, 5)
        other = plain.plus(word, plain.lot_total(house, lot))
        self.assertEqual(lets_refusal(house, word, other, ("signs", lot, (0,))), "signs")
        # At the third piece the empty part is let: the side there is 0.
        self.assertEqual(lets_refusal(house, word, other, ("signs", lot, (0, 2))), "signs")
        refused(self, ("even", -1), house, word, other, ("signs", lot, (2,)))
        for pieces in ((0, 1), (1,), (0, 3), (3,), (2, 0), (0, 2, 3)):
            refused(self, ("pieces", -1), house, word, other, ("signs", lot, pieces))
        # A word of an unmet piece is no told word of a met one.
        refused(self, ("lot", -1), house, word, plain.plus(other, "IIIIIX"), ("signs", lot + (9,), (0,)))

    def test_sides_and_shifts_are_added_over_pieces(self):
        # Four pieces of three words; the words of each have the sum of the last three letters of its third word.
        tails = ("ZII", "IZI", "IIZ", "ZZZ")
        words = []
        for k, tail in enumerate(tails):
            heads = ["I" * k + letter + "I" * (3 - k) for letter in "XZY"]
            words += [heads[0] + "III", heads[1] + "III", heads[2] + tail]
        house, word = (7, tuple(words)), "IIIIXXX"
        relation = tuple(range(12))
        self.assertEqual(plain.relations(house), [(), relation])
        self.assertEqual([shift_of(house, word, relation, piece) for piece in range(4)], [1, 1, 1, 1])
        for lot, pieces, wanted in (
            ((0,), (0, 1, 2), ("shift", -1)), ((0,), (0,), ("shift", -1)), ((0,), (0, 1), None),
            ((0,), (0, 1, 2, 3), None), ((0, 3), (0, 1), ("even", -1)), ((0, 3), (0, 2), None),
            ((0, 3, 6), (0, 1, 2), ("shift", -1)), ((0, 3, 6), (0, 1, 2, 3), None), ((0, 3, 6, 9), (0, 1), ("even", -1)),
            ((0, 3, 6, 9), (0, 1, 2, 3), ("even", -1)),
        ):
            other = plain.plus(word, plain.lot_total(house, lot))
            if wanted is None:
                self.assertEqual(lets_refusal(house, word, other, ("signs", lot, pieces)), "signs")
                self.assertIs(comes_of(house, word, other), False)
            else:
                refused(self, wanted, house, word, other, ("signs", lot, pieces))

    def test_sides_of_coined_pieces(self):
        house = (5, tuple(word + "II" for word in ROW[1]) + ("IIIXI", "IIIZI"))
        word = "ZZZXI"
        for lot, pieces, wanted in (
            ((1, 5), (0, 1), ("side", 0)), ((1,), (0,), ("side", 0)), ((1,), (1,), ("even", -1)),
            ((5,), (0, 1), None), ((5,), (0,), ("even", -1)), ((5,), (1,), None), ((1, 5), (1,), None),
            ((1, 2, 5), (0, 1), ("side", 0)), ((2, 5), (0, 1), ("side", 0)), ((), (0, 1), ("even", -1)),
            ((1, 3), (0,), None), ((1, 3), (0, 1), None), ((1, 3, 5), (0, 1), ("even", -1)), ((1, 3, 5), (0,), None),
            ((2, 4, 5), (1,), None), ((0, 2, 4), (0, 1), None), ((1, 4), (1,), ("even", -1)),
        ):
            other = plain.plus(word, plain.lot_total(house, lot))
            if wanted is None:
                # All told words are independent, so there is no other joint lot and other does not come.
                self.assertEqual(lets_refusal(house, word, other, ("signs", lot, pieces)), "signs")
                self.assertIs(comes_of(house, word, other), False)
            else:
                refused(self, wanted, house, word, other, ("signs", lot, pieces))
        # Behind the first piece, the place in pieces is told, not the number of the piece.
        back = (5, ("IIIXI", "IIIZI") + tuple(word + "II" for word in ROW[1]))
        other = plain.plus(word, plain.lot_total(back, (3,)))
        refused(self, ("side", 1), back, word, other, ("signs", (3,), (0, 1)))
        refused(self, ("side", 0), back, word, other, ("signs", (3,), (1,)))

    def test_halved_pieces_have_no_signs(self):
        refused(self, ("pieces", -1), ROW, "IZZ", "IZZ", ("signs", (), (0,)))
        refused(self, ("even", -1), ROW, "ZZZ", "ZZZ", ("signs", (), (0,)))

    def test_no_refusal_of_what_comes(self):
        chance = plain.chance_of(370)
        for house in (LINE, TRIO, FIVE, SIX, BOTH, DUO, ROW):
            words = plain.all_words(house[0])
            for word in chance.sample(words, 4):
                other = chance.choice(sorted(plain.walked(house, word)))
                things = [("still", piece) for piece in range(3)] + [("apart", check) for check in words]
                for piece, lot in enumerate(plain.pieces(house)):
                    for part in plain.lots_below(len(house[1])):
                        things.append(("signs", part, (piece,)))
                        if kind_of(house, piece) == "paired":
                            things.append(("coins", piece, pairing_of(house, piece), part))
                for thing in things:
                    with self.assertRaises(InvalidPaper):
                        lets_refusal(house, word, other, thing)


if __name__ == "__main__":
    unittest.main()

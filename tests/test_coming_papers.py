"""[38] papers of what comes of a word and of what does not."""

import unittest

from clashborn.comingpapers import coming_paper, lets_coming
from clashborn.errors import InvalidPaper
from clashborn.lettings import is_let
from clashborn.refusals import lets_refusal
from tests import plain
from tests.plain import BOTH, DUO, FIVE, LINE, LONES, ROW, SIX

PAIRS = ((0, 1), (1, 2), (2, 3), (3, 4), (4, 5))


def cases(seed):
    """Triples (house, word, other) with others that come, that do not, and any ones."""
    chance = plain.chance_of(seed)
    for house in plain.small_houses(seed):
        words = plain.all_words(house[0])
        for word in chance.sample(words, min(4, len(words))):
            coming = sorted(plain.walked(house, word))
            for other in chance.sample(coming, min(4, len(coming))) + chance.sample(words, min(6, len(words))):
                yield house, word, other


class ComingPapersTest(unittest.TestCase):
    def test_papers_hold(self):
        sorts = set()
        for house, word, other in cases(380):
            paper = coming_paper(house, word, other)
            self.assertIs(type(paper), tuple)
            sorts.add(paper[0])
            comes = other in plain.walked(house, word)
            self.assertIs(lets_coming(house, word, other, paper), comes, (house, word, other))
            if comes:
                self.assertEqual((len(paper), paper[0]), (2, "lot"))
                self.assertEqual(plain.lot_total(house, paper[1]), plain.plus(word, other))
                self.assertIs(is_let(house, word, paper[1]), True)
            else:
                self.assertEqual(lets_refusal(house, word, other, paper), paper[0])
        self.assertEqual(sorts, {"lot", "still", "apart", "coins", "signs"})

    def test_any_let_lot_is_accepted_and_no_other_one(self):
        for house, word, other in cases(381):
            if len(house[1]) > 6:
                continue
            pieces = plain.pieces(house)
            met = plain.met(house, word)
            for lot in plain.lots_below(len(house[1])):
                wanted = None
                parts = [k for k in lot if not any(k in pieces[piece] for piece in met)]
                if parts:
                    wanted = ("lot", -1)
                elif plain.lot_total(house, lot) != plain.plus(word, other):
                    wanted = ("sum", -1)
                else:
                    sides = [piece for piece in met if plain.side(house, word, lot, pieces[piece]) != 0]
                    stills = [piece for piece in met if piece not in plain.met(house, other)]
                    if sides:
                        wanted = ("let", sides[0])
                    elif stills:
                        wanted = ("still", stills[0])
                self.hold(wanted, house, word, other, ("lot", lot))

    def hold(self, wanted, house, word, other, thing):
        if wanted is None:
            self.assertIs(lets_coming(house, word, other, thing), True)
            return
        with self.assertRaises(InvalidPaper) as caught:
            lets_coming(house, word, other, thing)
        self.assertEqual((caught.exception.word, caught.exception.at), wanted, (house, word, other, thing))

    def test_shape(self):
        for thing in (None, True, 0, "lot", (), ("lot",), ("lot", (), ()), ["lot", ()], ("Lot", ()), (("lot",), ()),
                      ("still",), ("still", 0, 0), ("coins", 0, PAIRS), ("signs", ()), ("turns", (), ()), ("", ())):
            self.hold(("shape", -1), LINE, "XI", "II", thing)

    def test_entries_of_lots(self):
        for lot in (None, 0, True, "", [0], (1, 0), (0, 0), (3,), (True,), ((0,),), (10 ** 40,)):
            self.hold(("lot", -1), LINE, "ZI", "YI", ("lot", lot))
        # A told word of a piece that the word does not meet.
        self.hold(("lot", -1), BOTH, "ZI", "ZI", ("lot", (1,)))
        self.hold(("sum", -1), LINE, "ZI", "YI", ("lot", ()))
        self.hold(("sum", -1), LINE, "ZI", "YI", ("lot", (0, 1)))
        self.hold(("let", 0), FIVE, "XI", "XX", ("lot", (2,)))
        # By an even lot whose sum is the word itself, other is blank.
        self.hold(("still", 0), SIX, "IIZ", "III", ("lot", (3, 5)))

    def test_let_comes_before_still_over_all_pieces(self):
        # Two pieces: the first one has the even lot of SIX, the second one a lot that is not let.
        house = (5, tuple(word + "II" for word in SIX[1]) + ("IIIXI", "IIIZI", "IIIXX"))
        word, lot = "IIZZI", (3, 5)
        self.assertEqual(plain.met(house, word), (0, 1))
        self.hold(("still", 0), house, word, "IIIZI", ("lot", lot))
        self.hold(("let", 1), house, word, "IIIII", ("lot", lot + (7,)))
        turned = (5, house[1][6:] + house[1][:6])
        self.hold(("still", 1), turned, word, "IIIZI", ("lot", (6, 8)))
        self.hold(("let", 0), turned, word, "IIIII", ("lot", (1, 6, 8)))
        # Of two pieces that other does not meet, and of two that do not let the lot, the least is told.
        twice = plain.beside(SIX, SIX)
        self.hold(("still", 0), twice, "IIZIIZ", "IIIIII", ("lot", (3, 5, 9, 11)))
        self.hold(("let", 0), twice, "IIZIIZ", "XIZXIZ", ("lot", (0, 6)))
        self.hold(("let", 1), twice, "IIZIIZ", "IIIXIZ", ("lot", (3, 5, 6)))

    def test_entries_of_refusals(self):
        self.assertIs(lets_coming(ROW, "ZZZ", "IZZ", ("coins", 0, PAIRS, (1,))), False)
        self.assertIs(lets_coming(SIX, "XII", "IIZ", ("signs", (0, 3, 5), (0,))), False)
        self.assertIs(lets_coming(thing=("still", 0), other="II", word="XI", house=LINE), False)
        self.assertIs(lets_coming(LONES, "III", "ZII", ("apart", "XII")), False)
        self.hold(("piece", -1), LINE, "XI", "II", ("still", 1))
        self.hold(("meets", -1), LINE, "XI", "IX", ("still", 0))
        self.hold(("check", -1), LINE, "XI", "II", ("apart", "X"))
        self.hold(("clash", 1), LINE, "XI", "II", ("apart", "XI"))
        self.hold(("let", -1), ROW, "ZZZ", "ZZZ", ("coins", 0, PAIRS, ()))
        self.hold(("even", -1), SIX, "XII", "XII", ("signs", (), (0,)))

    def test_words_that_meet_nothing(self):
        self.assertEqual(coming_paper((2, ()), "XZ", "XZ"), ("lot", ()))
        self.assertEqual(coming_paper(other="II", word="II", house=LINE), ("lot", ()))
        self.assertEqual(coming_paper((1, ()), "X", "Z")[0], "apart")
        self.assertIs(lets_coming((1, ()), "X", "X", ("lot", ())), True)

    def test_examples(self):
        self.hold(("let", 0), FIVE, "XI", "XX", ("lot", (2,)))
        self.assertEqual(coming_paper(FIVE, "XI", "XX"), ("lot", (0, 4)))
        self.assertEqual(plain.met(DUO, "YZ"), (0, 1))


if __name__ == "__main__":
    unittest.main()

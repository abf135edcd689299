"""[49] papers of turns, [50] told rows, [51] spreads."""

import unittest

from clashborn.errors import InvalidPaper, Refused, Shared
from clashborn.ladderchecker import lets_ladder
from clashborn.refusals import lets_refusal
from clashborn.spreads import made_spread, told_spread
from clashborn.toldrows import lets_told_row, told_row
from clashborn.turnpapers import lets_turn_paper, turn_paper
from tests import plain
from tests.plain import DUO, LINE, LONG, SHARED, SIX, TRIO
from tests.test_turns import cases


class TurnPaperTest(unittest.TestCase):
    def test_papers_hold(self):
        chance = plain.chance_of(490)
        for house, word, turns in cases(490):
            met = plain.met(house, word)
            shared = plain.sharing(house, met)
            others = sorted(turns)
            for other in chance.sample(others, min(8, len(others))) + [word]:
                if shared is not None:
                    with self.assertRaises(Shared) as caught:
                        turn_paper(house, word, other)
                    self.assertEqual(caught.exception.piece, shared)
                    continue
                paper = turn_paper(house, word, other)
                self.assertEqual((type(paper), len(paper), paper[0]), (tuple, 3, "turns"))
                _, ladder, rows = paper
                self.assertEqual((type(rows), len(rows)), (tuple, turns[other]))
                here = word
                for row in rows:
                    self.assertTrue(plain.clash(here, ladder[row]))
                    here = plain.plus(here, ladder[row])
                self.assertEqual(here, other)
                if rows == ():
                    self.assertEqual(ladder, ())
                else:
                    many = max(len(plain.pieces(house)[piece]) for piece in met)
                    self.assertEqual(lets_ladder(house, ladder), len(ladder))
                    self.assertLessEqual(len(ladder), (many ** 3 + 40 * many) * len(rows))
                self.assertEqual(lets_turn_paper(house, word, other, paper), turns[other])

    def test_refused(self):
        for house, word, other in ((LINE, "XI", "II"), (LINE, "XI", "ZI"), (SIX, "XII", "IIZ"), (SHARED, "ZZII", "IIII")):
            with self.assertRaises(Refused) as caught:
                turn_paper(house, word, other)
            paper = caught.exception.paper
            self.assertEqual(lets_refusal(house, word, other, paper), paper[0])
        self.assertRaises(Shared, turn_paper, SHARED, "ZZII", "ZZII")

    def test_no_turns(self):
        self.assertEqual(turn_paper(LINE, "XI", "XI"), ("turns", (), ()))
        self.assertEqual(turn_paper(other="XZ", word="XZ", house=(2, ())), ("turns", (), ()))
        self.assertEqual(lets_turn_paper((2, ()), "XZ", "XZ", ("turns", (), ())), 0)
        # A ladder without use is let, too.
        self.assertEqual(lets_turn_paper(LINE, "XI", "XI", ("turns", ("XI", "ZZ"), ())), 0)

    def refused(self, wanted, house, word, other, thing):
        with self.assertRaises(InvalidPaper) as caught:
            lets_turn_paper(house, word, other, thing)
        self.assertEqual((caught.exception.word, caught.exception.at), wanted, thing)

    def test_entries(self):
        ladder = ("XI", "ZZ", "YZ", "IX", "YY")
        for thing in (None, True, 0, "turns", (), ("turns",), ("turns", ladder), ["turns", ladder, ()],
                      ("turns", ladder, (), ()), ("Turns", ladder, ()), ("turns", ladder, []), ("turns", ladder, None),
                      ("turns", ladder, 1), ("turns", (), "")):
            self.refused(("shape", -1), LINE, "XI", "IX", thing)
        for bad in (None, True, 0, "", [], ["XI"], ("II",), ("XI", "IX", "XX"), ("YZ",), ("XI", None), ("X",)):
            self.refused(("ladder", -1), LINE, "XI", "IX", ("turns", bad, (0,)))
            self.refused(("ladder", -1), LINE, "XI", "XI", ("turns", bad, ()))
        self.refused(("ladder", -1), LINE, "XI", "XI", ("turns", (), (0,)))
        for row in (5, -1, True, False, None, "0", (1,), [1], 10 ** 40):
            self.refused(("row", 0), LINE, "XI", "IX", ("turns", ladder, (row, 4)))
            self.refused(("row", 1), LINE, "XI", "IX", ("turns", ladder, (1, row)))
        self.refused(("idle", 0), LINE, "XI", "IX", ("turns", ladder, (0, 4)))
        self.refused(("idle", 0), LINE, "XI", "IX", ("turns", ladder, (3, None)))
        self.refused(("idle", 1), LINE, "XI", "IX", ("turns", ladder, (1, 2)))
        self.refused(("end", -1), LINE, "XI", "IX", ("turns", ladder, (1,)))
        self.refused(("end", -1), LINE, "XI", "IX", ("turns", ladder, ()))
        self.refused(("end", -1), LINE, "XI", "IX", ("turns", (), ()))
        self.refused(("end", -1), LINE, "XI", "II", ("turns", ladder, (1, 4)))

    def test_accepted(self):
        ladder = ("XI", "ZZ", "YZ", "IX", "YY")
        # Rows may come again, need not be as few as can be, and pieces may share.
        self.assertEqual(lets_turn_paper(LINE, "XI", "IX", ("turns", ladder, (1, 1, 1, 4))), 4)
        self.assertEqual(lets_turn_paper(TRIO, "X", "X", ("turns", ("Z",), (0, 0) * 3000)), 6000)
        self.assertEqual(lets_turn_paper(TRIO, "X", "Y", ("turns", ("Z",) * 5000, (4999,))), 1)
        self.assertEqual(lets_turn_paper(SHARED, "ZZII", "YYII", ("turns", SHARED[1], (0, 3))), 2)

    def test_fifteen_told_words(self):
        chance = plain.chance_of(491)
        for house in (plain.random_house(chance, 60, 15), plain.six_house(chance, 15), plain.paired_house(chance, 16, 15),
                      plain.beside(plain.random_house(chance, 9, 15), plain.paired_house(chance, 9, 15))):
            word = other = plain.random_word(chance, house[0])
            for _ in range(150):
                by = chance.choice(house[1])
                other = plain.plus(other, by) if plain.clash(other, by) else other
            paper = turn_paper(house, word, other)
            self.assertEqual(lets_turn_paper(house, word, other, paper), len(paper[2]))
            self.assertLessEqual(len(paper[1]), (15 ** 3 + 600) * len(paper[2]))

    def test_examples(self):
        paper = ("turns", ("XI", "ZZ", "YZ", "IX", "YY"), (1, 4))
        self.assertEqual(lets_turn_paper(LINE, "XI", "IX", paper), 2)
        self.assertEqual(lets_turn_paper(LINE, "XI", "YY", turn_paper(LINE, "XI", "YY")), 1)


class ToldRowTest(unittest.TestCase):
    def test_against_plain_walking(self):
        chance = plain.chance_of(500)
        for house, word, _ in cases(500):
            turns = plain.steps(house, word, house[1])
            others = sorted(turns)
            for other in chance.sample(others, min(8, len(others))) + [word]:
                row = told_row(house, word, other)
                self.assertEqual((type(row), len(row)), (tuple, turns[other]))
                here = word
                for told in row:
                    self.assertTrue(plain.clash(house[1][told], here))
                    here = plain.plus(house[1][told], here)
                self.assertEqual(here, other)
                self.assertEqual(lets_told_row(house, word, other, row), turns[other])

    def test_refused_and_never_shared(self):
        for house, word, other in ((LINE, "XI", "II"), (LINE, "XI", "ZI"), (SIX, "XII", "IIZ"), (SHARED, "ZZII", "IIII")):
            with self.assertRaises(Refused) as caught:
                told_row(house, word, other)
            paper = caught.exception.paper
            self.assertEqual(lets_refusal(house, word, other, paper), paper[0])
        self.assertEqual(told_row(SHARED, "ZZII", "ZZII"), ())
        self.assertEqual(len(told_row(other="YYII", word="ZZII", house=SHARED)), 2)
        self.assertEqual(told_row((2, ()), "XX", "XX"), ())

    def refused(self, wanted, house, word, other, thing):
        with self.assertRaises(InvalidPaper) as caught:
            lets_told_row(house, word, other, thing)
        self.assertEqual((caught.exception.word, caught.exception.at), wanted, thing)

    def test_entries(self):
        for thing in (None, True, 1, "", "1", [1], []):
            self.refused(("shape", -1), LINE, "XI", "YZ", thing)
        for told in (3, -1, True, False, None, "1", (1,), [1], 10 ** 40):
            self.refused(("told", 0), LINE, "XI", "YZ", (told,))
            self.refused(("told", 1), LINE, "XI", "YZ", (1, told, None))
        self.refused(("idle", 0), LINE, "XI", "YZ", (0, None))
        self.refused(("idle", 0), LINE, "XI", "YZ", (2,))
        self.refused(("idle", 2), LINE, "XI", "IX", (1, 2, 1, None))
        self.refused(("end", -1), LINE, "XI", "YZ", ())
        self.refused(("end", -1), LINE, "XI", "YZ", (1, 2))
        self.refused(("told", 0), (2, ()), "XI", "XI", (0,))
        self.assertEqual(lets_told_row(LINE, "XI", "XI", ()), 0)
        self.assertEqual(lets_told_row(LINE, "XI", "YZ", (1, 1, 1)), 3)
        self.assertEqual(lets_told_row(thing=(0,) * 5000, other="Z", word="Z", house=(1, ("X",))), 5000)

    def test_examples(self):
        self.assertEqual((len(told_row(LINE, "XI", "IX")), told_row(LINE, "XI", "YZ")), (4, (1,)))
        self.assertEqual(lets_told_row(LINE, "XI", "IX", (1, 2, 0, 1)), 4)


class SpreadsTest(unittest.TestCase):
    def test_against_plain_walking(self):
        shared = 0
        for house, word, turns in cases(510, 6):
            self.assertEqual(made_spread(house, word), plain.counted(turns), (house, word))
            self.assertEqual(told_spread(house, word), plain.counted(plain.steps(house, word, house[1])))
            shared += plain.sharing(house, plain.met(house, word)) is not None
        self.assertGreater(shared, 1)

    def test_pieces_that_share(self):
        # Pieces of three words that share words of their rests, in two and three pieces.
        twins = (4, SHARED[1] + ("XIIX", "IXIX"))
        triple = (5, tuple(word + "I" for word in SHARED[1]) + ("IIIIX", "IIIIZ", "IIIZY"))
        four = (3, ("XII", "IXI", "IIX", "XXX"))
        chance = plain.chance_of(511)
        for house in (SHARED, twins, triple, four):
            made = plain.made_words(house)
            for word in chance.sample(plain.all_words(house[0]), 20) + ["Z" * house[0]]:
                self.assertEqual(made_spread(house, word), plain.counted(plain.steps(house, word, made)), (house, word))
                told = plain.counted(plain.steps(house, word, house[1]))
                self.assertEqual(told_spread(house, word), told)
        self.assertEqual(made_spread(four, "ZZZ"), (1, 4, 3))

    def test_edges(self):
        for function in (told_spread, made_spread):
            self.assertEqual(function((2, ()), "XZ"), (1,))
            self.assertEqual(function(word="II", house=LINE), (1,))
            self.assertEqual(function((1, ("X",)), "Z"), (1, 1))
            self.assertIs(type(function(LINE, "XI")), tuple)
        self.assertEqual(told_spread(DUO, "YZ"), plain.counted(plain.steps(DUO, "YZ", DUO[1])))

    def test_four_thousand_words(self):
        many = (60, tuple("I" * k + "X" + "I" * (59 - k) for k in range(40)))
        wanted = (1, 11, 55, 165, 330, 462, 462, 330, 165, 55, 11, 1)
        self.assertEqual(told_spread(many, "Z" * 11 + "X" * 49), wanted)
        self.assertEqual(made_spread(many, "Z" * 11 + "X" * 49), wanted)
        big = plain.beside(LONG, (3, ("XII", "IXI", "IIX")))
        word = "XIIXZZZ"
        made = plain.made_words(big)
        self.assertEqual(made_spread(big, word), plain.counted(plain.steps(big, word, made)))

    def test_examples(self):
        self.assertEqual((told_spread(LINE, "XI"), made_spread(LINE, "XI")), ((1, 1, 2, 1, 1), (1, 4, 1)))


if __name__ == "__main__":
    unittest.main()

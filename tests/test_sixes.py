"""[27] sixes, [28] the checker of ladders."""

import itertools
import unittest

from clashborn.errors import InvalidPaper, Unlike
from clashborn.kindpapers import kind_paper
from clashborn.ladderchecker import lets_ladder
from clashborn.sixes import is_six, six_of
from tests import plain
from tests.plain import BOTH, FIVE, LINE, MORE, SIX


class SixesTest(unittest.TestCase):
    def test_is_six(self):
        self.assertIs(is_six(3, SIX[1]), True)
        self.assertIs(is_six(thing=SIX[1], places=3), True)
        for order in itertools.permutations(range(6)):
            thing = tuple(SIX[1][k] for k in order)
            self.assertIs(is_six(3, thing), plain.is_six(thing))
        chance = plain.chance_of(270)
        for k in range(6):
            for _ in range(40):
                thing = SIX[1][:k] + (plain.random_word(chance, 3),) + SIX[1][k + 1:]
                self.assertIs(is_six(3, thing), plain.is_six(thing))

    def test_is_six_of_other_things(self):
        longer = tuple(word + "I" for word in SIX[1])
        for thing in (None, True, 0, "", (), list(SIX[1]), SIX[1][:5], SIX[1] + ("III",), SIX, longer, " ".join(SIX[1]),
                      SIX[1][:5] + (None,), SIX[1][:5] + ("izz",), SIX[1][:5] + (("IZZ",),), (SIX[1],), MORE[1],
                      ("III",) * 6, SIX[1][:5] + ("IZZI",)):
            self.assertIs(is_six(3, thing), False)
        self.assertIs(is_six(4, longer), True)
        self.assertIs(is_six(4, SIX[1]), False)

    def test_six_of_small_pieces(self):
        chance = plain.chance_of(271)
        houses = [SIX, MORE, plain.LONG] + [plain.six_house(chance, many) for many in (6, 7, 8, 9, 10, 11)]
        houses += [plain.ringed_house(chance, points, many) for points in (5, 6) for many in (points, points + 2)]
        for house in houses:
            lot = plain.pieces(house)[0]
            six = six_of(house, 0)
            self.assertIs(type(six), tuple)
            self.assertTrue(plain.is_six(six))
            self.assertTrue(is_six(house[0], six))
            if house[0] < 5:
                self.assertLessEqual(set(six), plain.made_words((house[0], tuple(house[1][k] for k in lot))))

    def test_words_that_part_many_points(self):
        chance = plain.chance_of(272)
        for points in (6, 7, 8, 9, 12):
            for many in range(3, points - 2):
                # An even side, as the words of so many points then clash with pairs as stated.
                side = sorted(chance.sample(range(points), many - many % 2 + 2 * (many == 3)))
                if 3 <= len(side) <= points - 3:
                    house = plain.parted_house(chance, points, side, chance.choice(("II", "XX")))
                    six = six_of(house, 0)
                    self.assertTrue(plain.is_six(six))
                    paper = kind_paper(house, 0)
                    self.assertTrue(plain.is_ladder(house, paper[1]))
                    self.assertEqual(tuple(paper[1][row] for row in paper[2]), six)

    def test_sixes_lie_in_their_own_piece(self):
        house = (6, tuple("III" + word for word in SIX[1]) + tuple(word + "III" for word in MORE[1]))
        for piece in (0, 1):
            words = tuple(house[1][k] for k in plain.pieces(house)[piece])
            self.assertLessEqual(set(six_of(house, piece)), plain.made_words((6, words)))

    def test_lone_and_paired_pieces(self):
        for house, piece, kind in ((BOTH, 0, "paired"), (BOTH, 1, "lone"), (FIVE, 0, "paired"), (LINE, 0, "paired")):
            with self.assertRaises(Unlike) as caught:
                six_of(house, piece)
            self.assertEqual(caught.exception.kind, kind)


class LadderCheckerTest(unittest.TestCase):
    def refused(self, house, thing, word, at):
        with self.assertRaises(InvalidPaper) as caught:
            lets_ladder(house, thing)
        self.assertEqual((caught.exception.word, caught.exception.at), (word, at))

    def test_ladders(self):
        self.assertEqual(lets_ladder(LINE, ("XI", "ZZ", "YZ", "IX", "YY")), 5)
        self.assertEqual(lets_ladder(thing=("XI",), house=LINE), 1)
        self.assertEqual(lets_ladder(LINE, ("XI", "XI", "ZZ", "YZ", "YZ", "XI")), 6)
        self.assertEqual(lets_ladder(LINE, ("ZZ", "XI", "YZ", "IX", "ZY", "YY")), 6)

    def test_all_short_rows(self):
        for rows in itertools.product(plain.all_words(1), repeat=4):
            house = (1, ("X", "Z"))
            if plain.is_ladder(house, rows):
                self.assertEqual(lets_ladder(house, rows), 4)
            else:
                first = min(k for k in range(4) if not plain.is_ladder(house, rows[:k + 1]))
                self.refused(house, rows, "made", first)

    def test_shape(self):
        for thing in (None, True, 0, "", "XI", (), [], ["XI"], [("XI",)]):
            self.refused(LINE, thing, "shape", -1)

    def test_rows(self):
        for word in (None, True, 0, "", "X", "XIX", "xi", ("XI",), ["XI"], ()):
            self.refused(LINE, (word,), "word", 0)
            self.refused(LINE, ("XI", "IX", word, "XX"), "word", 2)
        self.refused(LINE, ("XI", "IX", "XX"), "made", 2)
        self.refused(LINE, ("XI", "XX", None), "made", 1)
        self.refused(LINE, ("XI", None, "XX"), "word", 1)
        self.refused(LINE, ("II",), "made", 0)
        self.refused(LINE, ("XI", "ZZ", "II"), "made", 2)
        self.refused(LINE, ("YZ", "XI", "ZZ"), "made", 0)
        self.refused(LINE, ("XI", "YZ", "ZZ"), "made", 1)
        self.refused((2, ()), ("XI",), "made", 0)
        self.refused(LINE, ("XI", "XI", "II"), "made", 2)

    def test_many_rows(self):
        rows = tuple(word for word in plain.all_words(3) if word != "III")
        house = (3, tuple(word for word in rows if word.count("I") == 2))
        self.assertEqual(lets_ladder(house, house[1] * 400), 3600)
        chain = tuple("I" * k + "X" + "I" * (59 - k) for k in range(40))
        self.assertEqual(lets_ladder((60, chain), chain * 100), 4000)
        self.refused((60, chain), chain * 100 + (plain.plus(chain[0], chain[1]),), "made", 4000)


if __name__ == "__main__":
    unittest.main()

"""[63] what two houses make, [64] papers of it, [65] needless words."""

import unittest

from clashborn.comparing import first_unmade, is_within, makes_same
from clashborn.errors import InvalidPaper, NotUsable
from clashborn.ladderchecker import lets_ladder
from clashborn.making import lets_unmade
from clashborn.needless import is_needless, stripped
from clashborn.withinpapers import lets_within, within_paper
from tests import plain
from tests.plain import BOTH, DUO, FIVE, LINE, LONES, MORE, SIX, TRIO


def couples(seed):
    """Pairs of houses on as many places, some of which make the same words."""
    chance = plain.chance_of(seed)
    by_places = {}
    for house in plain.small_houses(seed):
        by_places.setdefault(house[0], []).append(house)
    for houses in by_places.values():
        for house in houses:
            for other in chance.sample(houses, min(4, len(houses))) + [house]:
                yield house, other
            # A house of made words of this one makes some of its words, or all.
            made = sorted(plain.made_words(house))
            for many in (1, 3, 6):
                other = (house[0], tuple(chance.sample(made, min(many, len(made)))))
                yield other, house
                yield house, other


class ComparingTest(unittest.TestCase):
    def test_against_plain_gathering(self):
        seen = set()
        for house, other in couples(630):
            mine, yours = plain.made_words(house), plain.made_words(other)
            self.assertIs(is_within(house, other), mine <= yours)
            self.assertIs(makes_same(house, other), mine == yours)
            unmade = [told for told, word in enumerate(house[1]) if word not in yours]
            self.assertEqual([first_unmade(house, other)], unmade[:1] or [None])
            self.assertIsNot(type(first_unmade(house, other)), bool)
            seen.add((mine <= yours, yours <= mine))
        self.assertEqual(len(seen), 4)

    def test_edges(self):
        self.assertIs(is_within((2, ()), LINE), True)
        self.assertIs(is_within(LINE, (2, ())), False)
        self.assertIs(makes_same((2, ()), (2, ())), True)
        self.assertIsNone(first_unmade((2, ()), (2, ())))
        self.assertEqual(first_unmade(other=(2, ()), house=LINE), 0)

    def test_what_is_no_other_house(self):
        bads = (None, True, 0, "", (), (2,), [2, ("XI",)], (2, ["XI"]), (1, ("X",)), (3, ()), (2, ("II",)), (True, ()),
                (2, ("XI", "XI")), (2, ("X",)), ("2", ()))
        for bad in bads:
            for function in (is_within, makes_same, first_unmade, within_paper,
                             lambda house, other: lets_within(house, other, ("within", ()))):
                with self.assertRaises(NotUsable) as caught:
                    function(LINE, bad)
                self.assertEqual((caught.exception.word, caught.exception.at), ("other", -1))
        with self.assertRaises(NotUsable):
            is_within((1, ("X",)), (True, ("X",)))

    def test_large_houses(self):
        chance = plain.chance_of(631)
        house = plain.random_house(chance, 60, 40)
        shuffled = list(house[1])
        chance.shuffle(shuffled)
        self.assertIs(makes_same(house, (60, tuple(shuffled))), True)
        self.assertIs(is_within((60, house[1][:30]), house), True)
        self.assertEqual(first_unmade(house, (60, house[1][:39])), 39)

    def test_examples(self):
        self.assertIs(is_within(LINE, FIVE), True)
        self.assertIs(makes_same(TRIO, (1, ("X", "Z"))), True)
        self.assertEqual(first_unmade(FIVE, LINE), 3)


class WithinPapersTest(unittest.TestCase):
    def test_papers_hold(self):
        sorts = set()
        for house, other in couples(640):
            paper = within_paper(house, other)
            self.assertIs(type(paper), tuple)
            yours = plain.made_words(other)
            within = plain.made_words(house) <= yours
            self.assertIs(lets_within(house, other, paper), within)
            sorts.add(paper[0])
            if within:
                self.assertEqual((len(paper), paper[0], type(paper[1])), (2, "within", tuple))
                self.assertEqual(len(paper[1]), len(house[1]))
                for word, ladder in zip(house[1], paper[1]):
                    self.assertEqual(ladder[-1], word)
                    self.assertEqual(lets_ladder(other, ladder), len(ladder))
            else:
                self.assertEqual((len(paper), paper[0]), (3, "not"))
                self.assertNotIn(house[1][paper[1]], yours)
                self.assertEqual(lets_unmade(other, house[1][paper[1]], paper[2]), len(plain.pieces(other)))
        self.assertEqual(sorts, {"within", "not"})

    def test_edges(self):
        self.assertEqual(within_paper((2, ()), LINE), ("within", ()))
        self.assertEqual(within_paper(other=(2, ()), house=LINE)[2], ())
        self.assertIs(lets_within((2, ()), (2, ()), ("within", ())), True)
        self.assertIs(lets_within(LINE, (2, ()), ("not", 2, ())), False)

    def test_fifteen_told_words(self):
        chance = plain.chance_of(641)
        other = plain.random_house(chance, 60, 15)
        words = []
        while len(words) < 40:
            word = chance.choice(other[1])
            for _ in range(60):
                by = chance.choice(other[1])
                word = plain.plus(word, by) if plain.clash(word, by) else word
            if word not in words:
                words.append(word)
        house = (60, tuple(words))
        self.assertIs(lets_within(house, other, within_paper(house, other)), True)

    def refused(self, wanted, house, other, thing):
        with self.assertRaises(InvalidPaper) as caught:
            lets_within(house, other, thing)
        self.assertEqual((caught.exception.word, caught.exception.at), wanted, thing)

    def test_entries(self):
        good = (("X",), ("Z", "X", "Y"), ("Z",))
        other = (1, ("Z", "X"))
        for thing in (None, True, 0, "within", (), ("within",), ["within", good], ("within", good, ()), ("not",),
                      ("not", 0), ("not", 0, (), ()), ("Within", good), ("lot", ()), (good, "within"), ("not", (), 0, 0)):
            self.refused(("shape", -1), TRIO, other, thing)
        for bad in (None, True, 3, "", (), good[:2], good + (("X",),), list(good)):
            self.refused(("many", -1), TRIO, other, ("within", bad))
        for bad in (None, True, 0, "", "X", (), ["X"], ("Y",), ("X", None), ("I",), ("XX",)):
            self.refused(("ladder", 0), TRIO, other, ("within", (bad, None, None)))
            self.refused(("ladder", 2), TRIO, other, ("within", good[:2] + (bad,)))
        self.refused(("last", 0), TRIO, other, ("within", (("Z",), None, None)))
        self.refused(("last", 1), TRIO, other, ("within", (("X",), ("Z", "X", "Y", "X"), ("Z",))))
        # The ladders are of other, where Y is not told, and not of house, where it is.
        self.refused(("ladder", 1), TRIO, other, ("within", (("X",), ("Y",), ("Z",))))
        for told in (3, -1, True, None, "0", (0,), 10 ** 40):
            self.refused(("told", -1), TRIO, other, ("not", told, None))
        for refusals in (None, True, (), (("still", 0),), (("apart", "X"),), ("still", 0), [("still", 0)]):
            self.refused(("refusals", -1), TRIO, other, ("not", 1, refusals))
        self.assertIs(lets_within(TRIO, other, ("within", (("X", "X"), ("Z", "X", "Y"), ("Z", "X", "Z")))), True)

    def test_any_told_word_that_is_not_made(self):
        for told in (3, 4):
            refusals = within_paper((2, (FIVE[1][told],)), LINE)[2]
            self.assertIs(lets_within(FIVE, LINE, ("not", told, refusals)), False)
        self.refused(("refusals", -1), FIVE, LINE, ("not", 4, (("apart", "XX"),)))
        self.refused(("refusals", -1), FIVE, LINE, ("not", 2, (("apart", "XX"),)))

    def test_examples(self):
        self.assertIs(lets_within(FIVE, LINE, ("not", 3, (("apart", "XX"),))), False)
        thing = ("within", (("X",), ("Z", "X", "Y"), ("Z",)))
        self.assertIs(lets_within(TRIO, (1, ("Z", "X")), thing), True)


class NeedlessTest(unittest.TestCase):
    def test_against_plain_gathering(self):
        seen = set()
        for house in plain.small_houses(650):
            made = plain.made_words(house)
            for told in range(len(house[1])):
                rest = (house[0], house[1][:told] + house[1][told + 1:])
                needless = plain.made_words(rest) == made
                self.assertIs(is_needless(house, told), needless)
                seen.add(needless)
            left = house
            for told in reversed(range(len(house[1]))):
                fewer = (house[0], left[1][:told] + left[1][told + 1:])
                if plain.made_words(fewer) == made:
                    left = fewer
            self.assertEqual(stripped(house), left)
        self.assertEqual(seen, {True, False})

    def test_edges(self):
        self.assertEqual(stripped((2, ())), (2, ()))
        self.assertEqual(stripped(house=LONES), LONES)
        self.assertEqual(stripped(BOTH), BOTH)
        self.assertEqual(stripped((1, ("Y", "Z", "X"))), (1, ("Y", "Z")))
        self.assertIs(is_needless(told=0, house=(1, ("X",))), False)
        self.assertEqual(stripped((3, SIX[1] + ("YII", "YXI"))), (3, SIX[1]))
        for bad in (3, -1, True, None, "0", (0,)):
            with self.assertRaises(NotUsable) as caught:
                is_needless(LINE, bad)
            self.assertEqual((caught.exception.word, caught.exception.at), ("told", -1))

    def test_forty_words(self):
        chance = plain.chance_of(651)
        house = plain.six_house(chance, 40)
        left = stripped(house)
        self.assertIs(makes_same(left, house), True)
        self.assertFalse(any(is_needless(left, told) for told in range(len(left[1]))))
        self.assertEqual([word for word in house[1] if word in left[1]], list(left[1]))

    def test_examples(self):
        self.assertEqual((is_needless(TRIO, 1), is_needless(LINE, 1)), (True, False))
        self.assertEqual(stripped(TRIO), (1, ("X", "Y")))
        self.assertIs(is_needless(MORE, 6), False)
        self.assertIs(is_needless(DUO, 0), False)


if __name__ == "__main__":
    unittest.main()

"""[39] made words, [40] words gone through and classes, [41] sharing and Source."""

import unittest

from clashborn.classings import classes_among, first_of
from clashborn.errors import InvalidPaper, NotUsable
from clashborn.making import is_made, lets_unmade, maker_of, unmade_paper
from clashborn.refusals import lets_refusal
from clashborn.sharings import share_at
from clashborn.sourceclasses import Source
from clashborn.walking import made_walked, walked
from tests import plain
from tests.plain import BOTH, DUO, LINE, LONES, MORE, SHARED, SIX, TRIO


class MakingTest(unittest.TestCase):
    def test_against_plain_gathering(self):
        for house in plain.small_houses(390):
            made = plain.made_words(house)
            of_piece = [plain.made_words(plain.alone(house, k)) for k in range(len(plain.pieces(house)))]
            self.assertEqual(sum(map(len, of_piece)), len(made))
            for word in plain.all_words(house[0]):
                self.assertIs(is_made(house, word), word in made)
                makers = [k for k, words in enumerate(of_piece) if word in words]
                self.assertEqual([maker_of(house, word)], makers or [None])
                self.assertIsNot(type(maker_of(house, word)), bool)

    def test_papers_of_unmade_words(self):
        for house in plain.small_houses(391):
            made = plain.made_words(house)
            for word in plain.all_words(house[0])[::3]:
                if word in made:
                    with self.assertRaises(NotUsable) as caught:
                        unmade_paper(house, word)
                    self.assertEqual((caught.exception.word, caught.exception.at), ("word", -1))
                    continue
                paper = unmade_paper(house, word)
                pieces = plain.pieces(house)
                self.assertIs(type(paper), tuple)
                self.assertEqual(len(paper), len(pieces))
                for refusal, lot in zip(paper, pieces):
                    self.assertEqual(lets_refusal(house, house[1][lot[0]], word, refusal), refusal[0])
                self.assertEqual(lets_unmade(house, word, paper), len(pieces))
                self.assertIs(type(lets_unmade(house, word, paper)), int)

    def refused(self, wanted, house, word, thing):
        with self.assertRaises(InvalidPaper) as caught:
            lets_unmade(house, word, thing)
        self.assertEqual((caught.exception.word, caught.exception.at), wanted)

    def test_checker(self):
        for thing in (None, True, 0, "", (), (("still", 0),), [("still", 0), ("still", 0)], (1, 2, 3)):
            self.refused(("shape", -1), DUO, "II", thing)
        good = unmade_paper(DUO, "II")
        self.assertEqual(lets_unmade(DUO, "II", (("still", 0), good[1])), 2)
        for bad in (None, True, (), "still", ("still", 1), ("apart", "II"), ("lot", ()), ("signs", (), (0,)), good):
            self.refused(("refusal", 0), DUO, "II", (bad, good[1]))
            self.refused(("refusal", 0), DUO, "II", (bad, bad))
            self.refused(("refusal", 1), DUO, "II", (good[0], bad))
        # Each refusal is one from the told word with the least number of its own piece.
        house = (3, ("XII", "IZI", "ZII", "IXI"))
        self.assertEqual(lets_unmade(house, "III", (("still", 0), ("still", 1))), 2)
        self.refused(("refusal", 0), house, "III", (("still", 1), ("still", 0)))
        self.assertEqual(lets_unmade((2, ()), "XX", ()), 0)
        self.refused(("shape", -1), (2, ()), "XX", (("still", 0),))
        # Of a made word there is no such tuple; the checker says so with an entry of its list.
        self.refused(("refusal", 0), LINE, "XI", (("still", 0),))
        self.refused(("shape", -1), LINE, "XI", ())

    def test_no_told_words_and_blank_words(self):
        self.assertIs(is_made((2, ()), "XX"), False)
        self.assertIsNone(maker_of((2, ()), "II"))
        self.assertEqual(unmade_paper((2, ()), "XX"), ())
        for house in (LINE, TRIO, SIX, MORE, LONES):
            self.assertIs(is_made(house=house, word="I" * house[0]), False)

    def test_many_words(self):
        chance = plain.chance_of(392)
        for house in (plain.random_house(chance, 60, 40), plain.paired_house(chance, 41, 40),
                      plain.ringed_house(chance, 30, 38), plain.six_house(chance, 40),
                      (60, tuple("I" * k + "X" + "I" * (59 - k) for k in range(40)))):
            lot = chance.choice(plain.pieces(house))
            here = house[1][lot[0]]
            for _ in range(200):
                by = house[1][chance.choice(lot)]
                here = plain.plus(here, by) if plain.clash(here, by) else here
            self.assertIs(is_made(house, here), True)
            self.assertIn(lot[0], plain.pieces(house)[maker_of(house, here)])
            far = plain.plus(here, plain.random_word(chance, house[0]))
            if not is_made(house, far):
                self.assertEqual(lets_unmade(house, far, unmade_paper(house, far)), len(plain.pieces(house)))

    def test_examples(self):
        self.assertEqual(maker_of(DUO, "YI"), 0)
        self.assertEqual(lets_unmade(SIX, "IIZ", (("signs", (0, 3, 5), (0,)),)), 1)
        self.assertEqual(unmade_paper(SIX, "IIZ"), (("signs", (0, 3, 5), (0,)),))


class WalkingTest(unittest.TestCase):
    def test_against_plain_walking(self):
        chance = plain.chance_of(400)
        for house in plain.small_houses(400):
            words = plain.all_words(house[0])
            for word in chance.sample(words, min(5, len(words))):
                wanted = tuple(sorted(plain.walked(house, word)))
                self.assertEqual(walked(house, word), wanted)
                self.assertEqual(first_of(house, word), wanted[0])
            for piece in range(len(plain.pieces(house))):
                self.assertEqual(made_walked(house, piece), tuple(sorted(plain.made_words(plain.alone(house, piece)))))

    def test_edges(self):
        self.assertEqual(walked((1, ()), "Z"), ("Z",))
        self.assertEqual(first_of(word="II", house=LINE), "II")
        self.assertEqual(made_walked(LONES, 2), ("XXI",))
        self.assertEqual(walked(word="ZI", house=LINE), ("XY", "XZ", "YI", "ZI"))
        self.assertEqual(first_of(LINE, "ZI"), "XY")

    def test_four_thousand_words(self):
        # A strict piece on six places, and six lone ones beside it.
        chance = plain.chance_of(401)
        house = (12, tuple("I" * k + "X" + "I" * (11 - k) for k in range(12)))
        self.assertEqual(len(walked(house, "Z" * 11 + "I")), 2 ** 11)
        big = plain.beside(SIX, plain.beside(LINE, (3, ("XII", "IXI", "IIX"))))
        word = "XIIZIZZZ"
        self.assertEqual(walked(big, word), tuple(sorted(plain.walked(big, word))))
        self.assertEqual(len(made_walked(plain.six_house(chance, 11), 0)), 63)

    def test_classes(self):
        chance = plain.chance_of(402)
        for house in plain.small_houses(402):
            words = plain.all_words(house[0])
            chosen = tuple(chance.choice(words) for _ in range(12))
            walks = [plain.walked(house, word) for word in chosen]
            wanted = tuple(min(j for j in range(12) if chosen[k] in walks[j]) for k in range(12))
            self.assertEqual(classes_among(house, chosen), wanted)
        self.assertEqual(classes_among(LINE, ()), ())
        self.assertEqual(classes_among(words=("XX", "II", "XX"), house=(2, ())), (0, 1, 0))

    def test_classes_of_sixty_words(self):
        chance = plain.chance_of(403)
        house = plain.random_house(chance, 60, 40)
        words = [plain.random_word(chance, 60) for _ in range(20)]
        for k in range(40):
            here = words[k % 20]
            for _ in range(60):
                by = chance.choice(house[1])
                here = plain.plus(here, by) if plain.clash(here, by) else here
            words.append(here)
        self.assertEqual(classes_among(house, tuple(words)), tuple(range(20)) * 3)

    def test_examples(self):
        self.assertEqual(made_walked(LINE, 0), ("IX", "XI", "YY", "YZ", "ZY", "ZZ"))
        self.assertEqual(classes_among(DUO, ("YZ", "XI", "ZY", "II")), (0, 1, 0, 3))


class SharingTest(unittest.TestCase):
    def test_against_plain_sums(self):
        shared = 0
        for house in plain.small_houses(410) + [plain.beside(SHARED, LONES), (4, SHARED[1] + ("IIXX",))]:
            for numbers in plain.lots_below(len(plain.pieces(house)))[:40]:
                wanted = plain.sharing(house, numbers)
                self.assertEqual(share_at(house, numbers), wanted)
                shared += wanted is not None
        self.assertGreater(shared, 5)

    def test_edges(self):
        self.assertIsNone(share_at((1, ()), ()))
        self.assertIsNone(share_at(LONES, (0, 1)))
        self.assertIsNone(share_at(LONES, (1, 2)))
        self.assertEqual(share_at(pieces=(0, 1, 2), house=LONES), 2)
        self.assertEqual(share_at((3, ("XII", "IXI", "XXI", "IIX", "XIX")), (0, 1, 2, 3, 4)), 2)
        self.assertEqual(share_at((3, ("XII", "IXI", "XXI", "IIX", "XIX")), (0, 1, 3, 4)), 4)

    def test_forty_lone_pieces(self):
        house = (60, tuple("I" * k + "X" + "I" * (59 - k) for k in range(39)) + ("X" * 39 + "I" * 21,))
        self.assertEqual(share_at(house, tuple(range(40))), 39)
        self.assertIsNone(share_at(house, tuple(range(1, 40))))

    def test_examples(self):
        self.assertEqual(share_at((3, ("XII", "ZII", "YIZ", "IXI", "IZI", "IYZ")), (0, 1)), 1)


class SourceTest(unittest.TestCase):
    def test_methods(self):
        chance = plain.chance_of(411)
        for house in plain.small_houses(411):
            words = plain.all_words(house[0])
            for word in chance.sample(words, min(3, len(words))):
                source = Source(house, word)
                self.assertEqual(source.held(), (house, word))
                self.assertIs(type(source.held()), tuple)
                self.assertEqual(source.meets(), plain.met(house, word))
                for told, by in enumerate(house[1]):
                    there = plain.plus(word, by) if plain.clash(word, by) else word
                    turned = source.turned(told)
                    self.assertIs(type(turned), Source)
                    self.assertIsNot(turned, source)
                    self.assertEqual(turned.held(), (house, there))
                for other in chance.sample(words, min(6, len(words))):
                    comes = other in plain.walked(house, word)
                    self.assertIs(source.comes(other), comes)
                    self.assertIs(source.same_class(Source(house, other)), comes)
                    refusal = source.refusal(other)
                    self.assertIs(refusal is None, comes)
                    if not comes:
                        self.assertEqual(lets_refusal(house, word, other, refusal), refusal[0])

    def test_equality(self):
        self.assertEqual(Source(LINE, "XI"), Source(house=(2, ("XI", "ZZ", "IX")), word="XI"))
        for other in (Source(LINE, "IX"), Source(BOTH, "XI"), (LINE, "XI"), "XI", None, True, 0, LINE):
            self.assertFalse(Source(LINE, "XI") == other)
            self.assertTrue(Source(LINE, "XI") != other)
            self.assertFalse(other == Source(LINE, "XI"))

    def test_same_class_wants_a_source_of_the_same_house(self):
        for other in (None, "XI", (LINE, "XI"), Source(BOTH, "XI"), Source((2, ("ZZ", "XI", "IX")), "XI"), True):
            with self.assertRaises(NotUsable) as caught:
                Source(LINE, "XI").same_class(other)
            self.assertEqual((caught.exception.word, caught.exception.at), ("other", -1))
        self.assertIs(Source(LINE, "XI").same_class(other=Source((2, ("XI", "ZZ", "IX")), "YY")), True)

    def test_examples(self):
        self.assertEqual(Source(DUO, "YZ").turned(2).held(), ((2, ("XI", "ZI", "IX")), "YY"))


if __name__ == "__main__":
    unittest.main()

"""[15] words and their changes, [17] turns."""

import itertools
import unittest

from clashborn.letters import added, blank_of, clashes, sum_of, width_of, ys_of
from clashborn.turning import told_walk, turned, turned_along
from clashborn.wordchanges import beside, moved, recast
from tests import plain


class LettersTest(unittest.TestCase):
    def test_blank(self):
        for places in (1, 2, 7, 60, 61):
            self.assertEqual(blank_of(places), "I" * places)
        self.assertEqual(blank_of(places=3), "III")

    def test_sums_and_clashes_of_all_short_words(self):
        for places in (1, 2):
            for one in plain.all_words(places):
                for other in plain.all_words(places):
                    self.assertEqual(added(one, other), plain.plus(one, other))
                    self.assertIs(clashes(one, other), plain.clash(one, other))
        self.assertEqual(added(one="XX", other="YI"), "ZX")
        self.assertIs(clashes(other="XX", one="ZI"), True)

    def test_long_words(self):
        chance = plain.chance_of(15)
        for places in (3, 31, 32, 33, 59, 60):
            for _ in range(20):
                one, other = plain.random_word(chance, places), plain.random_word(chance, places)
                self.assertEqual(added(one, other), plain.plus(one, other))
                self.assertIs(clashes(one, other), plain.clash(one, other))

    def test_sum_of_many(self):
        chance = plain.chance_of(16)
        for places in (1, 2, 60):
            for many in (0, 1, 2, 5, 60):
                words = tuple(plain.random_word(chance, places) for _ in range(many))
                self.assertEqual(sum_of(places, words), plain.total(places, words))
        self.assertEqual(sum_of(3, ()), "III")
        self.assertEqual(sum_of(1, ("X", "X")), "I")
        self.assertEqual(sum_of(1, ("X", "X", "X", "I")), "X")
        self.assertEqual(sum_of(words=("XZ",), places=2), "XZ")

    def test_letters_counted(self):
        for word in plain.all_words(3):
            self.assertEqual(ys_of(word), sum(letter == "Y" for letter in word))
            self.assertEqual(width_of(word), sum(letter != "I" for letter in word))
        self.assertEqual((ys_of(word="Y" * 60), width_of(word="I" * 60)), (60, 0))

    def test_example(self):
        found = (added("XX", "YI"), sum_of(2, ("XI", "ZZ", "IX")), clashes("XX", "ZZ"), ys_of("YIY"), width_of("XIZ"))
        self.assertEqual(found, ("ZX", "YY", False, 2, 2))


class ChangesTest(unittest.TestCase):
    def test_moved(self):
        for order in itertools.permutations(range(4)):
            found = moved("XYZI", order)
            for place in range(4):
                self.assertEqual(found[order[place]], "XYZI"[place])
        self.assertEqual(moved(order=(0,), word="Y"), "Y")
        self.assertEqual(moved("X" + "I" * 59, tuple(range(59, -1, -1))), "I" * 59 + "X")

    def test_recast(self):
        for letters in itertools.permutations("XYZ"):
            turned_to = "".join(letters)
            for word in plain.all_words(2):
                for place in (0, 1):
                    wanted = list(word)
                    if word[place] != "I":
                        wanted[place] = turned_to["XYZ".index(word[place])]
                    self.assertEqual(recast(word, place, turned_to), "".join(wanted))
        self.assertEqual(recast(turned_to="YXZ", place=0, word="X"), "Y")

    def test_beside(self):
        self.assertEqual(beside("X", "I"), "XI")
        self.assertEqual(beside(other="Y" * 30, one="X" * 30), "X" * 30 + "Y" * 30)

    def test_example(self):
        found = (moved("XYZ", (2, 0, 1)), recast("XYI", 1, "ZXY"), beside("X", "IZ"))
        self.assertEqual(found, ("YZX", "XXI", "XIZ"))


class TurnsTest(unittest.TestCase):
    def test_turned(self):
        for word in plain.all_words(2):
            for by in plain.all_words(2):
                wanted = plain.plus(word, by) if plain.clash(word, by) else word
                self.assertEqual(turned(word, by), wanted)
                self.assertEqual(turned(by=by, word=word), wanted)

    def test_turned_along(self):
        chance = plain.chance_of(17)
        for places in (1, 3, 60):
            for many in (0, 1, 2, 60):
                word = plain.random_word(chance, places)
                words = tuple(plain.random_word(chance, places) for _ in range(many))
                wanted = word
                for by in words:
                    wanted = turned(wanted, by)
                self.assertEqual(turned_along(word, words), wanted)
        self.assertEqual(turned_along(word="XI", words=("II", "ZI", "ZI")), "XI")

    def test_told_walk(self):
        chance = plain.chance_of(18)
        for house in plain.NAMED + (plain.random_house(chance, 60, 40),):
            for many in (0, 1, 5, 60):
                word = plain.random_word(chance, house[0])
                tolds = tuple(chance.randrange(len(house[1])) for _ in range(many))
                found = told_walk(house, word, tolds)
                self.assertIs(type(found), tuple)
                self.assertEqual(len(found), many + 1)
                self.assertEqual(found[0], word)
                for k, told in enumerate(tolds):
                    self.assertEqual(found[k + 1], turned(found[k], house[1][told]))
        self.assertEqual(told_walk((3, ()), "XYZ", ()), ("XYZ",))

    def test_example(self):
        found = (turned("XI", "ZZ"), turned_along("XI", ("ZZ", "IX")), told_walk(plain.LINE, "XI", (2, 1)))
        self.assertEqual(found, ("YZ", "YY", ("XI", "XI", "YZ")))


if __name__ == "__main__":
    unittest.main()

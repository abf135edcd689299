"""[55] counts of what is made, [56] of what comes, [57] staying words, [58] classes."""

import math
import unittest

from clashborn.classcounts import class_count
from clashborn.comingcounts import added_count, coming_count, still_count
from clashborn.errors import Shared
from clashborn.piececounts import made_count, piece_count, sums_count
from clashborn.staying import stay_basis
from clashborn.wishing import word_by
from tests import plain
from tests.plain import BOTH, DUO, FIVE, LINE, LONES, LONG, MORE, ROW, SHARED, SIX, TRIO, WHOLE

FOUR = (3, ("XII", "IXI", "IIX", "XXX"))
# Three pieces that share words of their rests in several ways.
TRIPLE = (5, tuple(word + "I" for word in SHARED[1]) + ("IIIIX", "IIIIZ", "IIIZY"))
TWINS = (4, SHARED[1] + ("XIIX", "IXIX"))


def more_houses(seed):
    """Small houses, and paired pieces with whole relations, rings and half of their points coined."""
    chance = plain.chance_of(seed)
    found = plain.small_houses(seed) + [FOUR, TWINS, (2, ("XI", "ZI", "YI")), (2, ("XI", "ZI", "YI", "YX"))]
    for half, more, tail in ((1, 0, 0), (1, 2, 1), (1, 3, 2), (2, 2, 1), (3, 0, 1), (3, 3, 1)):
        found += [plain.whole_house(chance, half, more, tail) for _ in range(2)]
    # Strict pieces with a rest of words with both signs.
    found += [(4, tuple(word + chance.choice("IX") for word in SIX[1])) for _ in range(3)]
    found.append((5, tuple(word + "I" for word in LONG[1]) + ("XIIIX",)))
    found.append((5, tuple(word + "II" for word in SIX[1]) + ("XIIXI", "ZIIXX")))
    return found


def samples(seed, many=5):
    """Pairs (house, word)."""
    chance = plain.chance_of(seed)
    for house in more_houses(seed) + [TRIPLE]:
        for _ in range(many):
            word = plain.random_word(chance, house[0])
            # Some words that clash like a sum of told words do.
            if house[1] and chance.random() < 0.4:
                word = plain.total(house[0], chance.sample(house[1], min(2, len(house[1]))))
            yield house, word


def added_words(house, word, piece):
    return {plain.plus(word, other) for other in plain.walked(plain.alone(house, piece), word)}


class MadeCountsTest(unittest.TestCase):
    def test_against_plain_gathering(self):
        for house in more_houses(550):
            made = plain.made_words(house)
            self.assertEqual(made_count(house), len(made))
            self.assertIs(type(made_count(house)), int)
            for piece in range(len(plain.pieces(house))):
                alone = plain.alone(house, piece)
                self.assertEqual(piece_count(house, piece), len(plain.made_words(alone)), (house, piece))
                self.assertEqual(sums_count(house, piece), len(plain.sums(*alone)))
                self.assertIs(type(piece_count(house, piece)), int)

    def test_four_points_with_a_whole_relation(self):
        house = (1, ("X", "Z"))
        self.assertEqual(piece_count(house, 0), 3)
        self.assertEqual(piece_count(TRIO, 0), 3)
        square = (2, ("XI", "ZI", "XX"))
        self.assertEqual(piece_count(square, 0), len(plain.made_words(square)))

    def test_great_counts(self):
        # 38 words of a strict or loose piece, and a row of 40 words on 41 points.
        self.assertEqual(piece_count((60, tuple("I" * k + "XZ" + "I" * (58 - k) for k in range(40))), 0), 41 * 40 // 2)
        chance = plain.chance_of(551)
        loose = plain.six_house(chance, 40)
        self.assertEqual(piece_count(loose, 0), 4 ** 8 - 1)
        lones = (60, tuple("I" * k + "X" + "I" * (59 - k) for k in range(40)))
        self.assertEqual((made_count(lones), sums_count(lones, 39)), (40, 2))
        self.assertEqual(sums_count(plain.paired_house(chance, 41, 40), 0), 2 ** 40)

    def test_edges(self):
        self.assertEqual(made_count((3, ())), 0)
        self.assertEqual(made_count(house=LONES), 3)
        self.assertEqual((piece_count(SIX, 0), piece_count(MORE, 0)), (36, 63))
        self.assertEqual(piece_count(piece=1, house=BOTH), 1)

    def test_examples(self):
        self.assertEqual((piece_count(FIVE, 0), made_count(LINE), sums_count(LINE, 0)), (15, 6, 8))


class ComingCountsTest(unittest.TestCase):
    def test_against_plain_walking(self):
        shared = 0
        for house, word in samples(560):
            self.assertEqual(coming_count(house, word), len(plain.walked(house, word)), (house, word))
            self.assertIs(type(coming_count(house, word)), int)
            shared += plain.sharing(house, plain.met(house, word)) is not None
            for piece in range(len(plain.pieces(house))):
                found = added_count(house, word, piece)
                self.assertEqual(found, len(added_words(house, word, piece)), (house, word, piece))
                self.assertIs(type(found), int)
        self.assertGreater(shared, 3)

    def test_all_words_of_some_houses(self):
        for house in (LINE, TRIO, FIVE, ROW, SIX, MORE, BOTH, DUO, LONES, FOUR, WHOLE, LONG):
            for word in plain.all_words(house[0]):
                self.assertEqual(coming_count(house, word), len(plain.walked(house, word)), (house, word))

    def test_pieces_that_share(self):
        for house in (SHARED, TWINS, TRIPLE, FOUR):
            word = "Z" * house[0]
            self.assertIsNotNone(plain.sharing(house, plain.met(house, word)))
            self.assertEqual(coming_count(house, word), len(plain.walked(house, word)))

    def test_edges(self):
        self.assertEqual(coming_count((2, ()), "XZ"), 1)
        self.assertEqual(coming_count(word="III", house=SIX), 1)
        self.assertEqual(added_count(LINE, "II", 0), 1)
        self.assertEqual(added_count(BOTH, "IX", 1), 2)
        self.assertEqual(added_count(piece=0, word="IX", house=BOTH), 1)

    def test_great_counts(self):
        lones = (60, tuple("I" * k + "X" + "I" * (59 - k) for k in range(40)))
        self.assertEqual(coming_count(lones, "Z" * 60), 2 ** 40)
        row = (60, tuple("I" * k + "XZ" + "I" * (58 - k) for k in range(40)))
        # A word that clashes with just one word of the row has coins on all points of one side.
        for coins in (1, 2, 5, 19, 20):
            word = word_by(60, row[1], tuple(int(k == 40 - coins) for k in range(40)))
            self.assertEqual(coming_count(row, word), math.comb(41, coins))

    def test_still_words(self):
        for house in more_houses(561):
            wanted = sum(not plain.met(house, word) for word in plain.all_words(house[0]))
            self.assertEqual(still_count(house), wanted)
        self.assertEqual(still_count(house=(60, ())), 4 ** 60)
        self.assertEqual(still_count((1, ())), 4)

    def test_examples(self):
        self.assertEqual((coming_count(SIX, "IIZ"), added_count(LINE, "ZI", 0), still_count(LINE)), (27, 4, 2))


class StayingTest(unittest.TestCase):
    def test_against_plain_adding(self):
        sizes = set()
        for house, word in samples(570):
            for piece in range(len(plain.pieces(house))):
                alone = plain.alone(house, piece)
                added = added_words(house, word, piece)
                rest = [d for d in plain.sums(*alone) if not any(plain.clash(d, told) for told in alone[1])]
                wanted = {d for d in rest if {plain.plus(d, u) for u in added} == added}
                if piece not in plain.met(house, word):
                    wanted = {"I" * house[0]}
                found = stay_basis(house, word, piece)
                self.assertTrue(plain.is_basis(house[0], found, wanted), (house, word, piece, found))
                sizes.add((len(found), len(rest).bit_length() - 1))
        self.assertLessEqual({(0, 0), (0, 1), (1, 1), (1, 2), (2, 2)}, sizes)

    def test_edges(self):
        self.assertEqual(stay_basis(LINE, "II", 0), ())
        self.assertEqual(stay_basis(LONES, "ZII", 2), ("XXI",))
        self.assertEqual(stay_basis(LONES, "ZII", 1), ())
        self.assertEqual(stay_basis(piece=0, word="Z", house=(1, ("X",))), ("X",))
        # XXX has all six points of this row as ends: it stays with coins on half of them, and with fewer it does not.
        row = (3, ("XII", "ZZI", "IXI", "IZZ", "IIX"))
        self.assertEqual(stay_basis(row, "IZI", 0), ("XXX",))
        self.assertEqual(stay_basis(row, "ZII", 0), ())
        self.assertEqual(stay_basis(row, "XII", 0), ())

    def test_examples(self):
        self.assertEqual((stay_basis(LINE, "ZI", 0), stay_basis(LINE, "XI", 0)), ((), ("XX",)))


class ClassCountTest(unittest.TestCase):
    def test_against_plain_walking(self):
        clear = 0
        for house in more_houses(580):
            shared = plain.sharing(house, tuple(range(len(plain.pieces(house)))))
            if shared is not None:
                with self.assertRaises(Shared) as caught:
                    class_count(house)
                self.assertEqual(caught.exception.piece, shared)
                continue
            left = set(plain.all_words(house[0]))
            classes = 0
            while left:
                left -= plain.walked(house, next(iter(left)))
                classes += 1
            self.assertEqual(class_count(house), classes, house)
            self.assertIs(type(class_count(house)), int)
            clear += 1
        self.assertGreater(clear, 40)

    def test_edges(self):
        for places in (1, 2, 60):
            self.assertEqual(class_count((places, ())), 4 ** places)
        self.assertEqual(class_count(house=(1, ("X",))), 3)
        self.assertEqual(class_count((60, ("X" + "I" * 59,))), 3 * 2 ** 118)
        with self.assertRaises(Shared) as caught:
            class_count(FOUR)
        self.assertEqual(caught.exception.piece, 3)

    def test_great_counts(self):
        lones = (60, tuple("I" * k + "X" + "I" * (59 - k) for k in range(40)))
        self.assertEqual(class_count(lones), 3 ** 40 * 2 ** 40)
        row = (60, tuple("I" * k + "XZ" + "I" * (58 - k) for k in range(40)))
        # By 41 points, with as many coins as from none to 20.
        self.assertEqual(class_count(row), 21 * 2 ** 80)
        # By 40 points: as many as 0 to 19 on all words, and 20 on half of them.
        self.assertEqual(class_count((60, row[1][:39])), 41 * 2 ** 80)

    def test_examples(self):
        self.assertEqual((class_count(LINE), class_count(SIX), class_count(MORE)), (5, 3, 2))
        with self.assertRaises(Shared) as caught:
            class_count((2, ("XI", "IX", "XX")))
        self.assertEqual(caught.exception.piece, 2)


if __name__ == "__main__":
    unittest.main()

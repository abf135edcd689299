"""[22] and [32] consequences, and the guarantees G1 to G4 of [11], over several houses and words."""

import itertools
import unittest

from clashborn.comings import comes_of
from clashborn.errors import Odd, Unlike
from clashborn.housechanges import moved_house, recast_house
from clashborn.kindpapers import kind_paper, lets_kind
from clashborn.letters import added, clashes, sum_of
from clashborn.lots import is_odd, lot_sum, lots_added
from clashborn.pairings import ends_of, pairing_of, points_in
from clashborn.pairtexts import pairs_line, read_pairs
from clashborn.pairwork import ring_basis
from clashborn.piececlasses import Piece
from clashborn.piecekinds import kind_of, odd_relation
from clashborn.refusals import refusal_of
from clashborn.signs import sign_by, sign_word
from clashborn.sixes import six_of
from clashborn.spans import apart_basis, dimension_of
from clashborn.sumpapers import relation_basis, sum_paper
from clashborn.tiework import ties_of
from clashborn.turning import turned
from clashborn.wishing import wish_paper
from clashborn.wordchanges import moved, recast
from clashborn.wordreadings import read_house, read_short
from clashborn.wordtexts import house_line, short_line
from tests import plain


def heaps():
    chance = plain.chance_of(220)
    for places in (1, 2, 3, 17, 60):
        for many in (0, 1, 3, 6, 20):
            yield places, tuple(plain.random_word(chance, places) for _ in range(many))


def houses():
    chance = plain.chance_of(320)
    found = list(plain.NAMED) + [(1, ()), (2, ("XI", "IX", "XX"))]
    found += [plain.random_house(chance, places, many) for places in (1, 2, 3, 5, 9) for many in (2, 5, 8, 10)]
    found += [plain.paired_house(chance, points, many) for points, many in ((4, 6), (5, 7), (6, 8), (8, 9))]
    found += [plain.six_house(chance, many) for many in (6, 8, 10)]
    return found


class ConsequencesOf22Test(unittest.TestCase):
    def test_clashes_with_sums(self):
        chance = plain.chance_of(221)
        for places, words in heaps():
            for _ in range(5):
                word = plain.random_word(chance, places)
                lot = [other for other in words if chance.random() < 0.5]
                odd_many = sum(clashes(word, other) for other in lot) % 2 == 1
                self.assertIs(clashes(word, sum_of(places, tuple(lot))), odd_many)

    def test_clashes_stay_when_words_change_alike(self):
        chance = plain.chance_of(222)
        for places in (1, 2, 3, 60):
            for _ in range(20):
                one, other, by = (plain.random_word(chance, places) for _ in range(3))
                wanted = clashes(one, other)
                self.assertIs(clashes(turned(one, by), turned(other, by)), wanted)
                order = list(range(places))
                chance.shuffle(order)
                self.assertIs(clashes(moved(one, tuple(order)), moved(other, tuple(order))), wanted)
                place = chance.randrange(places)
                for letters in itertools.permutations("XYZ"):
                    turned_to = "".join(letters)
                    self.assertIs(clashes(recast(one, place, turned_to), recast(other, place, turned_to)), wanted)

    def test_changed_houses_keep_their_ties(self):
        chance = plain.chance_of(223)
        for house in houses():
            order = list(range(house[0]))
            chance.shuffle(order)
            self.assertEqual(ties_of(moved_house(house, tuple(order))), ties_of(house))
            self.assertEqual(ties_of(recast_house(house, chance.randrange(house[0]), "YZX")), ties_of(house))

    def test_counts(self):
        for places, words in heaps():
            self.assertEqual(dimension_of(places, words) + len(apart_basis(places, words)), 2 * places)
        for house in houses():
            self.assertEqual(len(relation_basis(house)), len(house[1]) - dimension_of(*house))

    def test_lines(self):
        chance = plain.chance_of(224)
        for places, words in heaps():
            for word in words:
                self.assertEqual(read_short(places, short_line(word)), word)
        for text in ("-", "X0", "Y1 Z3", "X0 Y1 Z2 X3"):
            self.assertEqual(short_line(read_short(4, text)), text)
        for house in houses():
            self.assertEqual(read_house(house_line(house)), house)
        for text in ("7;", "1; Z", "2; XI ZZ", "3; XYZ IIX"):
            self.assertEqual(house_line(read_house(text)), text)
        for _ in range(20):
            pairs = tuple((low, low + chance.randrange(1, 99)) for low in (chance.randrange(50) for _ in range(5)))
            self.assertEqual(read_pairs(pairs_line(pairs)), pairs)


class ConsequencesOf32Test(unittest.TestCase):
    def test_lots_within_paired_pieces(self):
        for house in houses():
            for piece, lot in enumerate(plain.pieces(house)):
                if kind_of(house, piece) not in ("lone", "paired"):
                    continue
                pairs = pairing_of(house, piece)
                points = tuple(range(points_in(pairs)))
                parts = plain.lots_of(lot)[::max(1, 2 ** len(lot) // 40)]
                ends = {part: ends_of(house, piece, pairs, part) for part in parts}
                for one in parts:
                    self.assertIs(is_odd(house, one), len(ends[one]) // 2 % 2 == 1)
                    for other in parts[::5]:
                        both = lots_added(one, other)
                        self.assertEqual(ends_of(house, piece, pairs, both), lots_added(ends[one], ends[other]))
                        shared = len(set(ends[one]) & set(ends[other])) % 2 == 1
                        self.assertIs(clashes(lot_sum(house, one), lot_sum(house, other)), shared)
                for relation in plain.relations(house, lot)[:50]:
                    self.assertIn(ends_of(house, piece, pairs, relation), ((), points))
                self.assertEqual(len(ring_basis(house, piece, pairs)), len(lot) - len(points) + 1)

    def test_kinds_papers_and_signs(self):
        for house in houses():
            for piece, lot in enumerate(plain.pieces(house)):
                paper = kind_paper(house, piece)
                self.assertEqual(kind_of(house, piece), paper[0])
                self.assertEqual(lets_kind(house, piece, paper), paper[0])
                found = odd_relation(house, piece)
                if found is not None:
                    self.assertRaises(Odd, sign_word, house, piece)
                    continue
                word = sign_word(house, piece)
                for part in plain.lots_of(lot)[::7]:
                    self.assertEqual(is_odd(house, part), sign_by(word, lot_sum(house, part)) == 1)


class GuaranteesTest(unittest.TestCase):
    def test_a_word_or_a_lot_and_a_sum_or_a_check(self):
        chance = plain.chance_of(110)
        for places, words in heaps():
            wishes = tuple(chance.randrange(2) for _ in words)
            sort, found = wish_paper(places, words, wishes)
            if sort == "word":
                self.assertEqual(tuple(int(clashes(found, word)) for word in words), wishes)
            else:
                self.assertEqual(sum_of(places, tuple(words[k] for k in found)), "I" * places)
                self.assertEqual(sum(wishes[k] for k in found) % 2, 1)
            word = plain.random_word(chance, places)
            sort, found = sum_paper(places, words, word)
            if sort == "lot":
                self.assertEqual(sum_of(places, tuple(words[k] for k in found)), word)
            else:
                self.assertEqual([clashes(found, other) for other in words + (word,)], [False] * len(words) + [True])

    def test_a_pairing_or_a_six_and_never_both(self):
        for house in houses():
            for piece, lot in enumerate(plain.pieces(house)):
                if kind_of(house, piece) in ("lone", "paired"):
                    self.assertTrue(plain.is_pairing(house, lot, pairing_of(house, piece)))
                    self.assertRaises(Unlike, six_of, house, piece)
                else:
                    self.assertTrue(plain.is_six(six_of(house, piece)))
                    self.assertRaises(Unlike, pairing_of, house, piece)

    def test_what_each_kind_makes(self):
        for house in houses():
            if house[0] > 4:
                continue
            for piece, lot in enumerate(plain.pieces(house)):
                words = tuple(house[1][k] for k in lot)
                made = {word for word in plain.all_words(house[0]) if Piece(house, piece).made(word)}
                self.assertEqual(made, plain.made_words((house[0], words)))
                clashing = {word for word in plain.sums(house[0], words) if any(plain.clash(word, told) for told in words)}
                kind = kind_of(house, piece)
                if kind == "lone":
                    self.assertEqual(made, set(words))
                elif kind == "paired":
                    pairs = pairing_of(house, piece)
                    parts = [part for part in plain.lots_of(lot) if len(ends_of(house, piece, pairs, part)) == 2]
                    self.assertEqual(made, {lot_sum(house, part) for part in parts})
                elif kind == "strict":
                    sign = sign_word(house, piece)
                    self.assertEqual(made, {word for word in clashing if sign_by(sign, word) == 1})
                else:
                    self.assertEqual(made, clashing)

    def test_what_comes_is_a_sum_away(self):
        chance = plain.chance_of(111)
        for house in houses():
            word = plain.random_word(chance, house[0])
            for by in house[1]:
                there = turned(word, by)
                self.assertIs(comes_of(house, word, there), True)
                self.assertIs(comes_of(house, there, word), True)
                self.assertIsNone(refusal_of(house, there, word))
            self.assertIs(comes_of(house, word, added(word, word)), word == "I" * house[0])


if __name__ == "__main__":
    unittest.main()

"""[73] readings, [74] steady checks, [75] parting checks, [78] calm words, [81] beginnings."""

import itertools
import unittest

from clashborn.beginnings import parted_words, steady_all
from clashborn.calms import are_calm, calm_basis, calm_count
from clashborn.errors import NotUsable
from clashborn.housechanges import with_word
from clashborn.partchecks import part_check
from clashborn.readings import read_by, unseen_basis
from clashborn.spans import dimension_of, rank_of
from clashborn.steadies import is_steady, steady_basis
from tests import plain
from tests.plain import DUO, FIVE, LINE, LONES, MORE, SHARED, SIX, TRIO


def small_houses(seed):
    return [house for house in plain.small_houses(seed) if house[0] <= 3]


def classes_of(house):
    """All classes, by plain walking, as sorted lists."""
    left = plain.all_words(house[0])
    found = []
    while left:
        came = plain.walked(house, left[0])
        left = [word for word in left if word not in came]
        found.append(sorted(came))
    return found


def met_words(house, words):
    """The told words of all pieces that at least one of the words meets."""
    lots = plain.pieces(house)
    return [house[1][told] for piece in sorted({piece for word in words for piece in plain.met(house, word)})
            for told in lots[piece]]


class ReadingsTest(unittest.TestCase):
    def test_examples(self):
        self.assertEqual(read_by("ZI", ("XI", "ZZ", "II")), (1, 0, 0))
        self.assertEqual(unseen_basis(2, ("XI", "ZZ", "IX"), ("XI", "ZI")), ("IX",))
        self.assertEqual(unseen_basis(2, ("XI", "ZZ", "IX"), ("XI", "ZI", "IZ")), ())

    def test_readings_are_numbers(self):
        chance = plain.chance_of(73)
        for places in (1, 2, 5, 60):
            word = plain.random_word(chance, places)
            checks = tuple(plain.random_word(chance, places) for _ in range(20)) + ("I" * places,) * 2
            found = read_by(word, checks)
            self.assertEqual(found, tuple(int(plain.clash(word, check)) for check in checks))
            self.assertTrue(all(type(reading) is int for reading in found))
            self.assertIs(type(found), tuple)
        self.assertEqual(read_by("X", ()), ())

    def test_unseen_sums(self):
        chance = plain.chance_of(74)
        for _ in range(60):
            places = chance.choice((1, 2, 3))
            words = tuple(plain.random_word(chance, places) for _ in range(chance.randrange(6)))
            checks = tuple(plain.random_word(chance, places) for _ in range(chance.randrange(4)))
            unseen = [word for word in plain.sums(places, words) if not any(plain.clash(word, check) for check in checks)]
            self.assertTrue(plain.is_basis(places, unseen_basis(places, words, checks), unseen), (words, checks))

    def test_without_checks_or_words(self):
        self.assertTrue(plain.is_basis(2, unseen_basis(2, ("XI", "II", "XI", "ZZ"), ()), plain.sums(2, ("XI", "ZZ"))))
        self.assertEqual(unseen_basis(3, (), ("XII",)), ())
        self.assertEqual(unseen_basis(3, ("III",), ()), ())

    def test_unseen_at_the_limits(self):
        chance = plain.chance_of(75)
        words = tuple(plain.random_word(chance, 60) for _ in range(60))
        checks = tuple(plain.random_word(chance, 60) for _ in range(60))
        for few in (0, 1, 30, 60):
            found = unseen_basis(60, words, checks[:few])
            self.assertFalse(any(plain.clash(word, check) for word in found for check in checks[:few]))
            self.assertEqual(dimension_of(60, found), len(found))
            self.assertEqual(dimension_of(60, words + found), dimension_of(60, words))
            self.assertGreaterEqual(len(found), 60 - few)


class SteadyTest(unittest.TestCase):
    def test_examples(self):
        self.assertEqual((is_steady(LINE, "ZI", "XX"), is_steady(LINE, "ZI", "XI"), is_steady(LINE, "XX", "XI")),
                         (True, False, True))
        self.assertEqual((steady_basis(LINE, "ZI"), steady_basis(TRIO, "X")), (("XX",), ()))

    def test_steady_by_walking(self):
        for house in small_houses(74):
            checks = plain.all_words(house[0])
            for came in classes_of(house):
                steady = [check for check in checks if len({plain.clash(check, word) for word in came}) == 1]
                for word in (came[0], came[-1]):
                    self.assertTrue(plain.is_basis(house[0], steady_basis(house, word), steady), (house, word))
                for check in checks[::3]:
                    self.assertIs(is_steady(house, came[len(came) // 2], check), check in steady)

    def test_steady_counts(self):
        # [82]: as many as 2 to the power of twice the places less the dimension of what is told in met pieces.
        for house in small_houses(82) + [SHARED, plain.beside(SIX, LINE), plain.beside(TRIO, FIVE)]:
            for word in plain.all_words(house[0])[::7]:
                basis = steady_basis(house, word)
                self.assertEqual(len(basis), 2 * house[0] - plain.dimension(house[0], met_words(house, (word,))))
                for other in sorted(plain.walked(house, word))[::9]:
                    self.assertEqual(plain.sums(house[0], steady_basis(house, other)), plain.sums(house[0], basis))

    def test_without_told_words(self):
        self.assertEqual(len(steady_basis((60, ()), "X" * 60)), 120)
        self.assertIs(is_steady((1, ()), "X", "Z"), True)


class PartCheckTest(unittest.TestCase):
    def test_examples(self):
        self.assertEqual(part_check((2, ("XI", "ZI", "YZ")), "IX", "XZ"), "IZ")
        self.assertIsNone(part_check(LINE, "ZI", "IZ"))

    def test_by_definition(self):
        chance = plain.chance_of(76)
        for house in small_houses(76) + [SHARED, LONES]:
            words = plain.all_words(house[0])
            for word, other in [(chance.choice(words), chance.choice(words)) for _ in range(25)] + [(words[0], words[0])]:
                ways = [check for check in words if plain.clash(check, word) != plain.clash(check, other)
                        and not any(plain.clash(check, told) for told in met_words(house, (word, other)))]
                found = part_check(house, word, other)
                self.assertTrue(found in ways if ways else found is None, (house, word, other))
                if found is not None:
                    self.assertTrue(is_steady(house, word, found) and is_steady(house, other, found))
                # [82]: None exactly if the sum of both is a sum of what is told in pieces that one of them meets.
                inside = plain.plus(word, other) in plain.sums(house[0], met_words(house, (word, other)))
                self.assertIs(found is None, inside)


class CalmTest(unittest.TestCase):
    def test_examples(self):
        self.assertEqual((are_calm(("XI", "IX", "XX")), are_calm(("XI", "IX", "ZZ"))), (True, False))
        self.assertEqual((calm_count(LINE, 0), calm_count(SIX, 0)), (2, 3))

    def test_few_words(self):
        self.assertIs(are_calm(()), True)
        self.assertIs(are_calm(("Y",)), True)
        self.assertIs(are_calm(("Y", "Y", "I")), True)

    def test_by_definition(self):
        chance = plain.chance_of(78)
        for _ in range(100):
            words = tuple(plain.random_word(chance, 2) for _ in range(chance.randrange(5)))
            calm = not any(plain.clash(one, other) for one, other in itertools.combinations(words, 2))
            self.assertIs(are_calm(words), calm)
        for first in range(4):
            for second in range(first + 1, 5):
                words = ["I" * k + "X" + "I" * (4 - k) for k in range(5)]
                words[second] = plain.plus(words[second], "I" * first + "Z" + "I" * (4 - first))
                self.assertIs(are_calm(tuple(words)), False)

    def test_bases(self):
        chance = plain.chance_of(79)
        houses = plain.small_houses(78) + [plain.six_house(chance, 30), plain.paired_house(chance, 30, 40)]
        for house in houses + [plain.random_house(chance, 60, 40)]:
            for piece, lot in enumerate(plain.pieces(house)):
                words = tuple(house[1][told] for told in lot)
                basis = calm_basis(house, piece)
                self.assertIs(type(basis), tuple)
                self.assertEqual(len(basis), calm_count(house, piece))
                self.assertEqual(calm_count(house, piece), dimension_of(house[0], words) - rank_of(house[0], words) // 2)
                self.assertTrue(are_calm(basis))
                self.assertEqual(dimension_of(house[0], basis), len(basis))
                self.assertEqual(dimension_of(house[0], words + basis), dimension_of(house[0], words))

    def test_no_longer_ones(self):
        # [82], by trial of all lots of sums that are one word longer.
        for house in (LINE, TRIO, FIVE, DUO, (2, ("XI", "ZI", "YZ"))):
            for piece, lot in enumerate(plain.pieces(house)):
                sums = sorted(plain.sums(house[0], [house[1][told] for told in lot]) - {"I" * house[0]})
                for words in itertools.combinations(sums, calm_count(house, piece) + 1):
                    free = plain.dimension(house[0], words) == len(words)
                    self.assertFalse(free and are_calm(words))


class BeginningsTest(unittest.TestCase):
    def test_examples(self):
        self.assertEqual(steady_all(LINE, ("ZI", "XX", "II")), ("XX",))
        self.assertEqual(parted_words(LINE, ("ZI", "IZ", "XX", "ZZ")), (0, 0, 2, 2))

    def test_no_words(self):
        self.assertTrue(plain.is_basis(2, steady_all(LINE, ()), plain.all_words(2)))
        self.assertEqual(parted_words(LINE, ()), ())

    def test_by_definition(self):
        chance = plain.chance_of(81)
        for house in small_houses(81) + [SHARED, LONES]:
            words = plain.all_words(house[0])
            for _ in range(6):
                some = tuple(chance.choice(words) for _ in range(chance.randrange(1, 6)))
                told = met_words(house, some)
                steady = [check for check in words if not any(plain.clash(check, word) for word in told)]
                self.assertTrue(plain.is_basis(house[0], steady_all(house, some), steady), (house, some))
                reads = [[plain.clash(check, word) for check in steady] for word in some]
                self.assertEqual(parted_words(house, some), tuple(reads.index(read) for read in reads))
                # [82]: joined exactly if their sum is a sum of what is told in pieces that one of words meets.
                sums = plain.sums(house[0], told)
                joined = [[plain.plus(one, other) in sums for other in some].index(True) for one in some]
                self.assertEqual(parted_words(house, some), tuple(joined))

    def test_words_of_one_class_are_joined(self):
        for house in small_houses(83) + [SHARED]:
            for word in plain.all_words(house[0])[::11]:
                came = tuple(sorted(plain.walked(house, word)))[:60]
                self.assertEqual(parted_words(house, came), (0,) * len(came))

    def test_steady_for_each(self):
        for house in (LINE, DUO, SHARED, MORE):
            words = tuple(plain.all_words(house[0])[1:60:5])
            for check in steady_all(house, words):
                self.assertTrue(all(is_steady(house, word, check) for word in words))

    def test_at_the_limits(self):
        chance = plain.chance_of(84)
        house = (60, tuple("I" * k + "X" + "I" * (59 - k) for k in range(38)))
        house = with_word(house, "Z" * 10 + "I" * 50)
        words = tuple(plain.random_word(chance, 60) for _ in range(60))
        self.assertEqual(len(parted_words(house, words)), 60)
        self.assertEqual(len(steady_all(house, words)), 120 - 39)

    def test_words_are_refused(self):
        for function in (steady_all, parted_words):
            for words in (None, "XI", ["XI"], ("XI", "X"), ("XI", 1), (True,), 0):
                with self.assertRaises(NotUsable) as caught:
                    function(LINE, words)
                self.assertEqual((caught.exception.word, caught.exception.at), ("words", -1))


if __name__ == "__main__":
    unittest.main()

"""[66] fewest_told, least_house, lets_least, all_house, and what [71] Sides tells of two houses."""

import itertools
import unittest

from clashborn.comparing import first_unmade, is_within, makes_same
from clashborn.errors import InvalidPaper, NotUsable
from clashborn.kinds import is_house
from clashborn.leasthouses import all_house, fewest_told, least_house, lets_least
from clashborn.needless import stripped
from clashborn.piececounts import made_count
from clashborn.sideclasses import Sides
from tests import plain
from tests.plain import BOTH, DUO, FIVE, LINE, MORE, ROW, SIX, TRIO


def fewest_by_trial(places):
    """For each lot of made words the fewest told words that make it, by trial of all houses that need at most five."""
    words = [word for word in plain.all_words(places) if set(word) != {"I"}]
    found = {}
    for many in range(min(len(words), 5) + 1):
        for told in itertools.combinations(words, many):
            found.setdefault(frozenset(plain.made_words((places, told))), many)
    return found


def fewest_by_guarantee(house):
    """G9, by plain trial of pairings."""
    many = 0
    for lot in plain.pieces(house):
        words = [house[1][told] for told in lot]
        if len(lot) == 1:
            many += 1
            continue
        more = plain.kind(house, lot) == "loose"
        pairs = plain.pairings_once(house, lot)
        if pairs is not None:
            points = {point for pair in pairs for point in pair}
            wholes = [part for part in plain.relations(house, lot)
                      if len(plain.ends(pairs, [lot.index(told) for told in part])) == len(points)]
            more = len(points) >= 6 and wholes != []
        many += plain.dimension(house[0], words) + more
    return many


def large_houses():
    """Houses at the limits: pieces of all kinds, forty told words, up to sixty places."""
    chance = plain.chance_of(66)
    found = [plain.random_house(chance, places, 40) for places in (5, 20, 60)]
    found += [plain.six_house(chance, 40), plain.paired_house(chance, 12, 40), plain.paired_house(chance, 30, 40)]
    found += [plain.ringed_house(chance, 9, 30), plain.whole_house(chance, 15, 8, 6), plain.whole_house(chance, 4, 30, 9)]
    found += [plain.parted_house(chance, 20, (1, 4, 7), "XI"), plain.beside(plain.six_house(chance, 20), FIVE)]
    return found


class FewestTest(unittest.TestCase):
    def test_examples(self):
        self.assertEqual((fewest_told(TRIO), fewest_told(FIVE), fewest_told(MORE)), (2, 5, 7))
        self.assertEqual(fewest_told((2, ("XI", "IX", "XX"))), 3)
        self.assertEqual([fewest_told(house) for house in (LINE, SIX, BOTH, DUO, ROW, (4, ()))], [3, 6, 3, 3, 5, 0])

    def test_no_house_has_fewer(self):
        chance = plain.chance_of(1)
        for places in (1, 2):
            trial = fewest_by_trial(places)
            houses = [plain.random_house(chance, places, many) for many in range(4 ** places) for _ in range(8)]
            for house in houses:
                self.assertEqual(fewest_told(house), trial[frozenset(plain.made_words(house))], house)
            # Two words on one place, five on two places make all, and nothing needs more.
            self.assertLessEqual(max(trial.values()), 5)

    def test_as_guaranteed(self):
        for house in plain.small_houses(2):
            self.assertEqual(fewest_told(house), fewest_by_guarantee(house), house)

    def test_least_houses_make_the_same(self):
        for house in plain.small_houses(3) + plain.small_houses(4):
            least = least_house(house)
            self.assertTrue(is_house(least), house)
            self.assertEqual(least[0], house[0])
            self.assertEqual(plain.made_words(least), plain.made_words(house), house)
            self.assertEqual(len(least[1]), fewest_told(house), house)
            self.assertEqual(lets_least(house, least), fewest_told(house))
            self.assertEqual(fewest_told(least), fewest_told(house))
            self.assertLessEqual(len(least[1]), len(stripped(house)[1]))

    def test_at_the_limits(self):
        for house in large_houses():
            least = least_house(house)
            self.assertTrue(makes_same(house, least))
            self.assertEqual(lets_least(house, least), len(least[1]))
            self.assertLessEqual(len(least[1]), len(house[1]))

    def test_results_are_integers_and_new(self):
        for house in plain.NAMED:
            kept = (house[0], tuple(house[1]))
            self.assertIs(type(fewest_told(house)), int)
            self.assertIs(type(least_house(house)), tuple)
            self.assertIs(type(least_house(house)[1]), tuple)
            self.assertEqual(house, kept)


class LetsLeastTest(unittest.TestCase):
    def refused(self, house, thing):
        with self.assertRaises(InvalidPaper) as caught:
            lets_least(house, thing)
        return (caught.exception.word, caught.exception.at)

    def test_accepted(self):
        self.assertEqual(lets_least(TRIO, (1, ("Z", "Y"))), 2)
        self.assertEqual(lets_least(FIVE, FIVE), 5)
        self.assertEqual(lets_least(MORE, MORE), 7)
        self.assertEqual(lets_least((3, ()), (3, ())), 0)
        # Told words of a least house need not be told words of the house.
        self.assertEqual(lets_least(LINE, (2, ("YZ", "ZY", "IX"))), 3)

    def test_no_house_on_as_many_places(self):
        things = [None, True, 0, "", (), (1,), (1, ["X", "Z"]), [1, ("X", "Z")], (1, ("X", "X")), (1, ("I", "X")),
                  (2, ("XI", "ZI")), (True, ("X", "Z")), (1, ("X", "Z"), ()), ("1", ("X", "Z")), (1, "XZ"), (0, ())]
        for thing in things:
            self.assertEqual(self.refused(TRIO, thing), ("house", -1), thing)

    def test_not_the_same_words(self):
        for thing in ((1, ()), (1, ("X",)), (1, ("Z",))):
            self.assertEqual(self.refused(TRIO, thing), ("same", -1))
        self.assertEqual(self.refused((1, ("X",)), TRIO), ("same", -1))
        self.assertEqual(self.refused(LINE, FIVE), ("same", -1))
        self.assertEqual(self.refused(FIVE, LINE), ("same", -1))
        self.assertEqual(self.refused((1, ()), (1, ("X",))), ("same", -1))

    def test_too_many(self):
        self.assertEqual(self.refused(TRIO, TRIO), ("many", -1))
        self.assertEqual(self.refused(LINE, (2, ("XI", "ZZ", "IX", "YY"))), ("many", -1))
        self.assertEqual(self.refused(FIVE, (2, tuple(word for word in plain.all_words(2) if word != "II"))), ("many", -1))

    def test_limits_do_not_hold_for_the_thing(self):
        wide = (60, ("X" + "I" * 59,))
        words = tuple("I" * k + "X" + "I" * (59 - k) for k in range(60))
        self.assertEqual(self.refused(wide, (60, words)), ("same", -1))
        self.assertEqual(self.refused(wide, (61, ("X" * 61,))), ("house", -1))


class AllHouseTest(unittest.TestCase):
    def test_examples(self):
        self.assertEqual((len(all_house(1)[1]), len(all_house(3)[1])), (2, 7))

    def test_all_words_are_made_by_the_fewest(self):
        for places in range(1, 20):
            house = all_house(places)
            self.assertTrue(is_house(house))
            self.assertEqual(house[0], places)
            self.assertEqual(made_count(house), 4 ** places - 1)
            self.assertEqual(len(house[1]), 2 * places + 1 if places > 1 else 2)
            self.assertEqual(fewest_told(house), len(house[1]))
            self.assertEqual(lets_least(house, house), len(house[1]))

    def test_plain(self):
        for places in (1, 2, 3, 4):
            words = plain.made_words(all_house(places))
            self.assertEqual(sorted(words), [word for word in sorted(plain.all_words(places)) if set(word) != {"I"}])


class SidesTest(unittest.TestCase):
    def test_examples(self):
        self.assertEqual((Sides(FIVE, LINE).within(), Sides(FIVE, LINE).fewest()), ((False, True), (5, 3)))

    def test_as_the_functions(self):
        chance = plain.chance_of(71)
        houses = [plain.random_house(chance, places, many) for places in (1, 2) for many in (0, 1, 2, 3, 5)]
        for house, other in itertools.product(houses, repeat=2):
            if house[0] == other[0]:
                sides = Sides(house, other)
                self.assertEqual(sides.within(), (is_within(house, other), is_within(other, house)))
                self.assertIs(sides.same(), makes_same(house, other))
                self.assertEqual(sides.apart_at(), first_unmade(house, other))
                self.assertEqual(sides.fewest(), (fewest_told(house), fewest_told(other)))
                self.assertEqual(sides.turned_about(), Sides(other, house))
                self.assertEqual(sides.turned_about().turned_about(), sides)
                self.assertEqual(sides == sides.turned_about(), house == other)

    def test_equal_to_like_sides_alone(self):
        self.assertEqual(Sides(LINE, FIVE), Sides((2, ("XI", "ZZ", "IX")), FIVE))
        self.assertNotEqual(Sides(LINE, FIVE), Sides(FIVE, LINE))
        self.assertNotEqual(Sides(LINE, FIVE), Sides(LINE, LINE))
        self.assertNotEqual(Sides(LINE, FIVE), Sides(FIVE, FIVE))
        for other in (None, True, (LINE, FIVE), LINE, "", [LINE, FIVE]):
            self.assertIs(Sides(LINE, FIVE) == other, False)

    def test_houses_on_like_places(self):
        with self.assertRaises(NotUsable) as caught:
            Sides(LINE, TRIO)
        self.assertEqual((caught.exception.word, caught.exception.at), ("other", -1))


if __name__ == "__main__":
    unittest.main()

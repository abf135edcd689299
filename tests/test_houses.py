"""[16] houses changed, [21] House."""

import itertools
import unittest
from unittest import mock

from clashborn.errors import NotUsable
from clashborn.houseclasses import House
from clashborn.housechanges import (
    beside_house, house_of, kept_words, moved_house, recast_house, reordered, with_word, without_word,
)
from clashborn.kinds import is_house
from clashborn.wordchanges import moved, recast
from tests import plain
from tests.plain import FIVE, LINE, TRIO


def not_usable(case, wanted, function, *args, **named):
    with case.assertRaises(NotUsable) as caught:
        function(*args, **named)
    case.assertEqual((caught.exception.word, caught.exception.at), wanted)


class HouseOfTest(unittest.TestCase):
    def test_houses(self):
        self.assertEqual(house_of(1), (1, ()))
        self.assertEqual(house_of(places=3), (3, ()))
        for house in plain.NAMED:
            self.assertEqual(house_of(house[0], *house[1]), house)

    def test_wrong_words(self):
        for wrong in (None, True, 1, "", "X", "x!", ("XI",), ["XI"], "XXX", "II"):
            not_usable(self, ("words", 0), house_of, 2, wrong)
            not_usable(self, ("words", 2), house_of, 2, "XI", "IX", wrong, wrong)
        not_usable(self, ("words", 1), house_of, 2, "XI", "XI", "II")
        not_usable(self, ("words", 3), house_of, 2, "XI", "IX", "ZZ", "IX", "II")


class ChangedHousesTest(unittest.TestCase):
    def test_with_and_without_word(self):
        self.assertEqual(with_word(LINE, "IZ"), (2, ("XI", "ZZ", "IX", "IZ")))
        self.assertEqual(with_word(house=(1, ()), word="Y"), (1, ("Y",)))
        for told in range(5):
            self.assertEqual(without_word(FIVE, told)[1], FIVE[1][:told] + FIVE[1][told + 1:])
        self.assertEqual(without_word(told=0, house=(1, ("X",))), (1, ()))

    def test_kept_words(self):
        for lot in plain.lots_below(5):
            self.assertEqual(kept_words(FIVE, lot), (2, tuple(FIVE[1][k] for k in lot)))
        self.assertEqual(kept_words(lot=(), house=(2, ())), (2, ()))

    def test_reordered(self):
        for order in itertools.permutations(range(3)):
            words = reordered(LINE, order)[1]
            for told in range(3):
                self.assertEqual(words[order[told]], LINE[1][told])
        self.assertEqual(reordered((2, ()), ()), (2, ()))

    def test_moved_and_recast(self):
        chance = plain.chance_of(19)
        for house in plain.NAMED + (plain.random_house(chance, 60, 40),):
            order = list(range(house[0]))
            chance.shuffle(order)
            found = moved_house(house, tuple(order))
            self.assertEqual(found, (house[0], tuple(moved(word, tuple(order)) for word in house[1])))
            for turned_to in ("XYZ", "ZXY", "XZY"):
                place = chance.randrange(house[0])
                found = recast_house(house, place, turned_to)
                self.assertEqual(found, (house[0], tuple(recast(word, place, turned_to) for word in house[1])))
                self.assertTrue(is_house(found))
        self.assertEqual(recast_house(turned_to="YXZ", place=0, house=(1, ())), (1, ()))

    def test_beside(self):
        self.assertEqual(beside_house(LINE, TRIO), (3, ("XII", "ZZI", "IXI", "IIX", "IIY", "IIZ")))
        self.assertEqual(beside_house(other=LINE, house=TRIO), (3, ("XII", "YII", "ZII", "IXI", "IZZ", "IIX")))
        self.assertEqual(beside_house((1, ()), (2, ())), (3, ()))
        big = (30, tuple("I" * k + "X" + "I" * (29 - k) for k in range(20)))
        found = beside_house(big, big)
        self.assertEqual((found[0], len(found[1]), len(set(found[1]))), (60, 40, 40))

    def test_example(self):
        found = (kept_words(LINE, (0, 2)), reordered(LINE, (1, 2, 0)), beside_house((1, ("X",)), (1, ("Z",))))
        self.assertEqual(found, ((2, ("XI", "IX")), (2, ("IX", "XI", "ZZ")), (2, ("XI", "IZ"))))


class HouseClassTest(unittest.TestCase):
    def test_told_and_len(self):
        for house in plain.NAMED + ((1, ()), (60, ())):
            found = House(house[0], *house[1])
            self.assertEqual(found.told(), house)
            self.assertIs(type(found.told()), tuple)
            self.assertEqual(len(found), len(house[1]))
        self.assertEqual(House(places=2).told(), (2, ()))

    def test_wrong_parts(self):
        for places in (0, -1, True, False, None, "1", (1,), [1], -(10 ** 40)):
            not_usable(self, ("places", -1), House, places)
            not_usable(self, ("places", -1), House, places, "x")
        not_usable(self, ("words", 0), House, 1, "I")
        not_usable(self, ("words", 1), House, 1, "X", "X")
        not_usable(self, ("words", 2), House, 1, "X", "Z", None)

    def test_equal_to_the_same_house_alone(self):
        self.assertTrue(House(1, "X", "Z") == House(1, "X", "Z"))
        self.assertFalse(House(1, "X", "Z") != House(1, "X", "Z"))
        others = (House(1, "Z", "X"), House(1, "X"), House(2), (1, ("X", "Z")), "1; X Z", None, 1, True, [], mock.ANY)
        for other in others:
            self.assertFalse(House(1, "X", "Z") == other)
            self.assertTrue(House(1, "X", "Z") != other)
        self.assertFalse(House(1) == House(2))

    def test_added(self):
        for one in (LINE, TRIO, (1, ()), FIVE):
            for other in (LINE, (3, ()), TRIO):
                both = House(one[0], *one[1]) + House(other[0], *other[1])
                self.assertIs(type(both), House)
                self.assertEqual(both.told(), beside_house(one, other))
        for other in ((1, ("X",)), None, 0, True, "X", [], ()):
            not_usable(self, ("other", -1), lambda: House(1, "X") + other)

    def test_changed(self):
        house = House(*[2, *LINE[1]])
        self.assertEqual(house.with_word("IZ"), House(2, "XI", "ZZ", "IX", "IZ"))
        self.assertEqual(house.with_word(word="IZ").told(), with_word(LINE, "IZ"))
        self.assertEqual(house.without(1), House(2, "XI", "IX"))
        self.assertEqual(house.without(told=0).told(), without_word(LINE, 0))
        self.assertEqual(house.told(), LINE)
        for lot in plain.lots_below(3):
            self.assertEqual(house.sum_at(lot), plain.lot_total(LINE, lot))
            self.assertEqual(house.sum_at(lot=lot), plain.lot_total(LINE, lot))

    def test_wrong_arguments_of_methods(self):
        house = House(2, "XI", "ZZ", "IX")
        for word in ("II", "XI", "X", "XXX", None, True, ("IZ",), "iz"):
            not_usable(self, ("word", -1), house.with_word, word)
        for told in (3, -1, True, False, None, "0", (0,)):
            not_usable(self, ("told", -1), house.without, told)
        for lot in ((3,), (1, 0), (0, 0), [0], (True,), None, 0):
            not_usable(self, ("lot", -1), house.sum_at, lot)

    def test_example(self):
        both = House(1, "X") + House(1, "Z")
        found = (both.told(), both.sum_at((0, 1)), len(both.without(0)))
        self.assertEqual(found, ((2, ("XI", "IZ")), "XZ", 1))


if __name__ == "__main__":
    unittest.main()

"""[13] kinds of values and [14] the checker of houses."""

import unittest

from clashborn.errors import InvalidPaper
from clashborn.housechecker import lets_house
from clashborn.kinds import is_house, is_integer, is_lot, is_number, is_word, is_words
from tests import plain

NESTED = ((((((),),),),),)
ANY_VALUES = (
    0, 1, -1, 2, 10 ** 40, -(10 ** 59), 10 ** 60 - 1, True, False, None, "", "X", "XI", "I", "x", "XA", "1",
    (), (0,), (1, 0), (0, 1), (True,), [], [0], ["X"], ("X",), (1, ("X",)), [1, ("X",)], NESTED, [[[]]], ("X", ["X"]),
)


class KindsTest(unittest.TestCase):
    def test_integers_and_numbers(self):
        for thing in ANY_VALUES:
            self.assertIs(is_integer(thing), type(thing) is int)
            self.assertIs(is_number(thing), type(thing) is int and thing >= 0)
        self.assertIs(is_integer(thing=-(10 ** 59)), True)
        self.assertIs(is_number(thing=10 ** 59), True)
        self.assertIs(is_number(thing=-1), False)

    def test_words(self):
        for thing in ANY_VALUES:
            self.assertIs(is_word(thing), thing in ("X", "XI", "I"))
        for thing in ("IXYZ", "Z" * 60, "Z" * 4000):
            self.assertIs(is_word(thing), True)
        for code in range(32, 127):
            self.assertIs(is_word("X" + chr(code)), chr(code) in "IXYZ")
        for thing in ("ixyz", "IXYZ ", " X", "X\n", "XYZ0", "IX-", ("X",), ["X"], b"X"):
            self.assertIs(is_word(thing), False)

    def test_tuples_of_words(self):
        for thing in ANY_VALUES:
            self.assertIs(is_words(1, thing), thing == () or thing == ("X",) and type(thing) is tuple)
        self.assertIs(is_words(2, ("II", "II")), True)
        self.assertIs(is_words(2, ["II"]), False)
        self.assertIs(is_words(2, ("II", "I")), False)
        self.assertIs(is_words(2, ("II", "XX", None)), False)
        self.assertIs(is_words(2, ("III",)), False)
        self.assertIs(is_words(2, ()), True)
        self.assertIs(is_words(60, ("X" * 60,) * 60), True)

    def test_lots(self):
        for lot in plain.lots_below(4):
            self.assertIs(is_lot(4, lot), True)
            self.assertIs(is_lot(3, lot), 3 not in lot)
            self.assertIs(is_lot(4, list(lot)), False)
        for thing in ((0, 0), (1, 0), (-1,), (True,), (False,), (0, True), (0, 1, 1), (0, "1"), (None,), ((0,),),
                      None, "", 0, True, "01"):
            self.assertIs(is_lot(4, thing), False)
        self.assertIs(is_lot(0, ()), True)
        self.assertIs(is_lot(0, (0,)), False)
        self.assertIs(is_lot(10 ** 40, (0, 10 ** 40 - 1)), True)
        self.assertIs(is_lot(10 ** 40, (10 ** 40,)), False)

    def test_houses(self):
        for thing in ANY_VALUES:
            self.assertIs(is_house(thing), thing == (1, ("X",)) and type(thing) is tuple)
        for house in plain.NAMED + ((1, ()), (60, ("X" * 60,)), (10 ** 59, ()), (99, ("X" * 99,))):
            self.assertIs(is_house(house), True)

    def test_example(self):
        found = (is_integer(True), is_words(2, ("II", "II")), is_lot(3, (0, 2)), is_lot(3, [0]))
        self.assertEqual(found, (False, True, True, False))


class HouseCheckerTest(unittest.TestCase):
    def refused(self, thing, word, at):
        with self.assertRaises(InvalidPaper) as caught:
            lets_house(thing)
        self.assertEqual((caught.exception.word, caught.exception.at), (word, at))
        self.assertIs(is_house(thing), False)

    def test_houses_pass(self):
        for house in plain.NAMED:
            self.assertEqual(lets_house(house), len(house[1]))
        self.assertEqual(lets_house(thing=(1, ())), 0)
        many = tuple(word for word in plain.all_words(4) if word != "IIII")
        self.assertEqual(lets_house((4, many)), 255)
        self.assertEqual(lets_house((4000, ("X" * 4000,))), 1)

    def test_shape(self):
        for thing in (None, 1, True, "", "X", (), (1,), (1, (), ()), [1, ()], NESTED):
            self.refused(thing, "shape", -1)

    def test_places(self):
        for places in (0, -1, True, False, None, "1", (1,), [1], -(10 ** 59)):
            self.refused((places, ()), "places", -1)
            self.refused((places, 1), "places", -1)
            self.refused((places, ("I",)), "places", -1)

    def test_words(self):
        for words in (None, 1, "X", ["X"], [], True):
            self.refused((1, words), "words", -1)

    def test_word_blank_and_again_in_one_sequence(self):
        self.refused((1, ("X", "I", "X")), "blank", 1)
        self.refused((1, ("X", "X", "I")), "again", 1)
        self.refused((1, ("X", "x", "I")), "word", 1)
        self.refused((1, ("X", "XX", "X")), "word", 1)
        self.refused((1, ("XX", "I")), "word", 0)
        self.refused((2, ("XI", "II", "X")), "blank", 1)
        self.refused((2, ("XI", "IX", "ZZ", "IX", "II")), "again", 3)
        self.refused((10 ** 59, ("X",)), "word", 0)
        for word in (None, True, 1, "", (), ["X"], ("X",), "y", "XX", "II", [["X"]]):
            self.refused((1, ("X", "Z", word)), "word", 2)


if __name__ == "__main__":
    unittest.main()

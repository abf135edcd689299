"""[21] lines of words and houses, [31] lines of pairs."""

import unittest

from clashborn.errors import InvalidText
from clashborn.pairtexts import pairs_line, read_pairs
from clashborn.wordreadings import read_house, read_short
from clashborn.wordtexts import house_line, short_line
from tests import plain


def wrong_field(case, field, function, *args):
    with case.assertRaises(InvalidText) as caught:
        function(*args)
    case.assertEqual((caught.exception.line, caught.exception.field), (0, field))


class ShortLinesTest(unittest.TestCase):
    def test_lines_are_read_back(self):
        for places in (1, 2, 3):
            for word in plain.all_words(places):
                line = short_line(word)
                fields = [f"{letter}{k}" for k, letter in enumerate(word) if letter != "I"]
                self.assertEqual(line, " ".join(fields) if fields else "-")
                self.assertEqual(read_short(places, line), word)
        word = "XYZI" * 15
        self.assertEqual(read_short(text=short_line(word=word), places=60), word)

    def test_wrong_fields(self):
        for text, field in (
            ("", 0), (" ", 0), ("X", 0), ("X0 ", 1), (" X0", 0), ("X0  Z2", 1), ("X00", 0), ("X01", 0), ("X3", 0),
            ("X-1", 0), ("I0", 0), ("x0", 0), ("0X", 0), ("X0 X0", 1), ("X0 Y0", 1), ("Z2 X0", 1), ("X0 Y1 Z3", 2),
            ("- ", 1), ("- X0", 1), ("- -", 1), ("X0 -", 1), ("-X0", 0), ("--", 0), (" -", 0), ("X+1", 0), ("X1.0", 0),
            ("X 0", 0), ("X0,Z2", 0), ("X" + "9" * 3000, 0), ("X1\nZ2", 0), ("XX0", 0), ("X0Z2", 0), ("X 1", 0),
            ("Y1 z2 X0", 1), ("Y2 -", 1),
        ):
            wrong_field(self, field, read_short, 3, text)
        self.assertEqual(read_short(3, "Y2"), "IIY")

    def test_examples(self):
        found = (short_line("XIZ"), short_line("I"), house_line(plain.TRIO), house_line((3, ())))
        self.assertEqual(found, ("X0 Z2", "-", "1; X Y Z", "3;"))
        self.assertEqual((read_short(3, "X0 Z2"), read_house("1; X Z")), ("XIZ", (1, ("X", "Z"))))
        wrong_field(self, 1, read_short, 3, "Z2 X0")


class HouseLinesTest(unittest.TestCase):
    def test_lines_are_read_back(self):
        chance = plain.chance_of(210)
        for house in plain.NAMED + ((1, ()), (60, ()), plain.random_house(chance, 60, 40)):
            self.assertEqual(read_house(house_line(house)), house)
        self.assertEqual(house_line(house=plain.BOTH), "2; XI IZ ZI")
        self.assertEqual(read_house(text="12;"), (12, ()))

    def test_wrong_fields(self):
        for text, field in (
            ("", 0), (";", 0), ("1", 0), ("0;", 0), ("00;", 0), ("01;", 0), ("-1;", 0), ("+1;", 0), (" 1;", 0),
            ("1 ;", 0), ("1;;", 0), ("1;X", 0), ("x; X", 0), ("1; ", 1), ("1;  X", 1), ("1; I", 1), ("1; X X", 2),
            ("1; X XX", 2), ("1; X x", 2), ("1; X ", 2), ("2; XI IX XI II", 3), ("2; XI II XI", 2), ("1;\nX", 0),
            ("1; X\n", 1), ("1.0;", 0), ("1:", 0), ("X; 1;", 0), ("2; XI 1;", 2), ("1; X,Z", 1),
        ):
            wrong_field(self, field, read_house, text)


class PairLinesTest(unittest.TestCase):
    def test_lines_are_read_back(self):
        for pairs in (((0, 1),), ((0, 1), (1, 12)), ((3, 10 ** 40), (0, 9)), tuple((k, k + 1) for k in range(60))):
            line = pairs_line(pairs)
            self.assertEqual(line, " ".join(f"{low}-{high}" for low, high in pairs))
            self.assertEqual(read_pairs(line), pairs)
        self.assertEqual(read_pairs(text=pairs_line(pairs=((0, 1), (0, 1)))), ((0, 1), (0, 1)))

    def test_wrong_fields(self):
        for text, field in (
            ("", 0), (" ", 0), ("0", 0), ("-", 0), ("0-", 0), ("-1", 0), ("0-0", 0), ("1-0", 0), ("0-01", 0),
            ("00-1", 0), ("0--1", 0), ("0-1-2", 0), ("0-1 ", 1), (" 0-1", 0), ("0-1  1-2", 1), ("0-1 2-1", 1),
            ("0-1 1-2 2", 2), ("0 - 1", 0), ("a-b", 0), ("0-x", 0), ("0_1", 0), ("+0-1", 0), ("0-1\n", 0),
            ("9-10 10-9", 1),
        ):
            wrong_field(self, field, read_pairs, text)

    def test_examples(self):
        self.assertEqual(pairs_line(((0, 1), (1, 12))), "0-1 1-12")
        wrong_field(self, 1, read_pairs, "0-1 2-1")


if __name__ == "__main__":
    unittest.main()

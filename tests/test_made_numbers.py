"""[59] made words by how they start, [60] by their numbers, [61] letters, the mean of widths and Book."""

import fractions
import itertools
import types
import unittest

from clashborn.bookclasses import Book
from clashborn.errors import NotUsable
from clashborn.lettertables import letter_table, width_mean
from clashborn.madenumbers import made_at, made_before, made_list, next_made, number_of
from clashborn.making import is_made
from clashborn.piececounts import made_count
from clashborn.startcounts import made_with, piece_with
from tests import plain
from tests.plain import BOTH, LINE, LONES, MORE, SIX, TRIO
from tests.test_counts import more_houses
from tests.test_turns import large_houses


def starts_below(places):
    return ["".join(letters) for many in range(places + 1) for letters in itertools.product("IXYZ", repeat=many)]


class StartCountsTest(unittest.TestCase):
    def test_all_starts(self):
        for house in more_houses(590):
            made = sorted(plain.made_words(house))
            for start in starts_below(min(house[0], 3)):
                found = made_with(house, start)
                self.assertEqual(found, sum(word.startswith(start) for word in made), (house, start))
                self.assertIs(type(found), int)
            for piece in range(len(plain.pieces(house))):
                of_piece = sorted(plain.made_words(plain.alone(house, piece)))
                starts = {word[:many] for word in of_piece[::1 + len(of_piece) // 12] for many in range(house[0] + 1)}
                for start in sorted(starts) + ["", "I", "Z", "Y" * house[0]]:
                    found = piece_with(house, piece, start)
                    self.assertEqual(found, sum(word.startswith(start) for word in of_piece), (house, piece, start))
                    self.assertIs(type(found), int)

    def test_edges(self):
        self.assertEqual(made_with((2, ()), ""), 0)
        self.assertEqual(made_with((2, ()), "XI"), 0)
        self.assertEqual((made_with(LINE, "YZ"), made_with(start="XX", house=LINE)), (1, 0))
        self.assertEqual(piece_with(start="", piece=1, house=BOTH), 1)
        self.assertEqual((piece_with(BOTH, 1, "I"), piece_with(BOTH, 0, "I")), (1, 0))
        self.assertEqual((made_with(LONES, "X"), made_with(LONES, "XXI")), (2, 1))

    def test_what_is_no_start(self):
        for bad in (None, True, 0, (), ("X",), ["X"], "x", "XA", " ", "III", "XXX", "X\n", "-"):
            for function, args in ((made_with, (LINE, bad)), (piece_with, (LINE, 0, bad)), (Book(LINE).starting, (bad,))):
                with self.assertRaises(NotUsable) as caught:
                    function(*args)
                self.assertEqual((caught.exception.word, caught.exception.at), ("start", -1))
        with self.assertRaises(NotUsable) as caught:
            piece_with(LINE, 1, None)
        self.assertEqual(caught.exception.word, "piece")

    def test_great_houses(self):
        chance = plain.chance_of(591)
        for house in large_houses(591):
            for many in (0, 1, 7, house[0] - 1):
                start = plain.random_word(chance, many) if many else ""
                start = start if many < 3 else chance.choice(house[1])[:many]
                parts = sum(made_with(house, start + letter) for letter in "IXYZ")
                self.assertEqual(made_with(house, start), parts)
            for word in house[1][:3]:
                self.assertEqual(made_with(house, word), 1)

    def test_examples(self):
        self.assertEqual((made_with(LINE, "Y"), piece_with(LINE, 0, "ZY"), made_with(LINE, "")), (2, 1, 6))


class MadeNumbersTest(unittest.TestCase):
    def test_against_plain_gathering(self):
        for house in more_houses(600):
            made = sorted(plain.made_words(house))
            found = list(made_list(house))
            self.assertEqual(found, made)
            for number in sorted({0, 1, len(made) // 2, len(made) - 1} & set(range(len(made)))):
                self.assertEqual(made_at(house, number), made[number])
                self.assertEqual(number_of(house, made[number]), number)
                self.assertIs(type(number_of(house, made[number])), int)
            words = plain.all_words(house[0])
            for word in words[::1 + len(words) // 30]:
                self.assertEqual(made_before(house, word), sum(other < word for other in made))
                self.assertIs(type(made_before(house, word)), int)
                after = [other for other in made if other > word]
                self.assertEqual(next_made(house, word), after[0] if after else None)

    def test_each_number(self):
        for house in (LINE, TRIO, SIX, MORE, LONES, BOTH):
            made = sorted(plain.made_words(house))
            self.assertEqual([made_at(house, number) for number in range(len(made))], made)
            self.assertEqual([number_of(house, word) for word in made], list(range(len(made))))
            self.assertEqual([next_made(house, word) for word in made], made[1:] + [None])

    def test_no_made_words_and_the_ends(self):
        self.assertEqual(list(made_list((2, ()))), [])
        self.assertEqual((made_before((2, ()), "ZZ"), next_made((2, ()), "II")), (0, None))
        self.assertEqual((made_before(LINE, "II"), made_before(LINE, "ZZ")), (0, 5))
        self.assertEqual((next_made(LINE, "II"), next_made(word="ZZ", house=LINE)), ("IX", None))
        self.assertEqual(made_before(word="YY", house=LINE), 2)

    def test_what_is_not_as_stated(self):
        for bad in (6, 7, 10 ** 40, -1, True, False, None, "0", "IX", (), (0,)):
            with self.assertRaises(NotUsable) as caught:
                made_at(LINE, bad)
            self.assertEqual((caught.exception.word, caught.exception.at), ("number", -1))
        for bad in ("II", "XX", "X", "XII", None, True, 0, ("XI",)):
            with self.assertRaises(NotUsable) as caught:
                number_of(LINE, bad)
            self.assertEqual((caught.exception.word, caught.exception.at), ("word", -1))
        for bad in (0, True, None):
            with self.assertRaises(NotUsable):
                made_at((2, ()), bad)

    def test_the_list_is_a_generator(self):
        found = made_list(house=LINE)
        self.assertIsInstance(found, types.GeneratorType)
        self.assertEqual(next(found), "IX")
        self.assertEqual(list(found), ["XI", "YY", "YZ", "ZY", "ZZ"])
        self.assertEqual(list(found), [])

    def test_great_houses(self):
        for house in large_houses(601):
            many = made_count(house)
            for number in (0, many // 3, many - 1):
                word = made_at(house, number)
                self.assertIs(is_made(house, word), True)
                self.assertEqual(number_of(house, word), number)
                self.assertEqual(next_made(house, word), made_at(house, number + 1) if number < many - 1 else None)
            with self.assertRaises(NotUsable):
                made_at(house, many)

    def test_four_thousand_words(self):
        house = plain.beside(MORE, plain.beside(SIX, (3, MORE[1][:5])))
        self.assertEqual(list(made_list(house)), sorted(plain.made_words(house)))
        big = (6, tuple("I" * k + "XZ" + "I" * (4 - k) for k in range(5)) + ("ZIIIII", "YIIIIX", "IIIIYY", "IIIIIZ"))
        self.assertEqual(list(made_list(big)), sorted(plain.made_words(big)))

    def test_examples(self):
        self.assertEqual(list(made_list(LINE)), ["IX", "XI", "YY", "YZ", "ZY", "ZZ"])
        found = (made_before(LINE, "XX"), number_of(LINE, "YZ"), made_at(LINE, 0), next_made(LINE, "XX"))
        self.assertEqual(found, (2, 3, "IX", "YY"))


class LetterTablesTest(unittest.TestCase):
    def test_against_plain_gathering(self):
        for house in more_houses(610):
            made = plain.made_words(house)
            for place in range(house[0]):
                wanted = tuple(sum(word[place] == letter for word in made) for letter in "IXYZ")
                found = letter_table(house, place)
                self.assertEqual(found, wanted)
                self.assertEqual([type(found)] + [type(many) for many in found], [tuple] + [int] * 4)
            widths = [house[0] - word.count("I") for word in made]
            mean = fractions.Fraction(sum(widths), len(widths)) if widths else fractions.Fraction(0)
            self.assertEqual(width_mean(house), (mean.numerator, mean.denominator))
            self.assertEqual([type(part) for part in width_mean(house)], [int, int])

    def test_edges(self):
        self.assertEqual(width_mean((3, ())), (0, 1))
        self.assertEqual(letter_table((3, ()), 2), (0, 0, 0, 0))
        self.assertEqual(width_mean(house=(3, ("XYZ",))), (3, 1))
        self.assertEqual(letter_table(place=1, house=LONES), (1, 2, 0, 0))
        for bad in (2, -1, True, False, None, "0", (0,), 10 ** 40):
            with self.assertRaises(NotUsable) as caught:
                letter_table(LINE, bad)
            self.assertEqual((caught.exception.word, caught.exception.at), ("place", -1))

    def test_examples(self):
        self.assertEqual((letter_table(LINE, 0), width_mean(LINE)), ((1, 1, 2, 2), (5, 3)))


class BookTest(unittest.TestCase):
    def test_methods(self):
        for house in (LINE, TRIO, SIX, LONES, (2, ())):
            book = Book(house)
            made = sorted(plain.made_words(house))
            self.assertEqual(book.total(), len(made))
            self.assertEqual([book.at(number) for number in range(len(made))], made)
            self.assertEqual([book.number(word) for word in made], list(range(len(made))))
            self.assertEqual([book.after(word) for word in made], made[1:] + [None] * (made != []))
            self.assertEqual(book.starting("X"), sum(word[0] == "X" for word in made))

    def test_errors(self):
        for function, arg, name in ((Book(LINE).at, 6, "number"), (Book(LINE).at, True, "number"),
                                    (Book(LINE).number, "XX", "word"), (Book(LINE).number, None, "word"),
                                    (Book(LINE).after, "X", "word"), (Book(LINE).starting, "III", "start"),
                                    (Book, None, "house"), (Book, (1, ("I",)), "house"), (Book, [1, ()], "house")):
            with self.assertRaises(NotUsable) as caught:
                function(arg)
            self.assertEqual((caught.exception.word, caught.exception.at), (name, -1))

    def test_equality(self):
        self.assertEqual(Book(LINE), Book(house=(2, ("XI", "ZZ", "IX"))))
        for other in (Book(TRIO), Book((2, ("ZZ", "XI", "IX"))), LINE, None, 0, True, "", (LINE,)):
            self.assertFalse(Book(LINE) == other)
            self.assertTrue(Book(LINE) != other)
            self.assertFalse(other == Book(LINE))

    def test_examples(self):
        self.assertEqual((Book(TRIO).at(1), Book(TRIO).number("Z"), Book(TRIO).after("Z")), ("Y", 2, None))


if __name__ == "__main__":
    unittest.main()

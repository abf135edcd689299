"""[19] papers of sums, relations, and [20] papers of wishes."""

import itertools
import unittest

from clashborn.errors import InvalidPaper, Odd
from clashborn.sumpapers import is_sum, lets_sum, relation_basis, sum_paper
from clashborn.wishing import lets_wishes, wish_paper, word_by
from tests import plain

NO_PAPERS = (
    None, True, 1, "lot", (), ("lot",), ("apart",), ["lot", ()], ("lot", (), ()), ("Lot", ()), ("", ()), ((), ()),
    ("check", "X"), (None, ()), (0, ()), ((("lot",),), ()), ("still", 0), (("lot", ()),), (True, False), (["lot"], ()),
)


def refused(case, wanted, function, *args):
    with case.assertRaises(InvalidPaper) as caught:
        function(*args)
    case.assertEqual((caught.exception.word, caught.exception.at), wanted)


def heaps():
    chance = plain.chance_of(190)
    yield 1, ()
    yield 2, ("II", "XI", "XI")
    for places in (1, 2):
        for many in range(7):
            yield places, tuple(chance.choice(plain.all_words(places)) for _ in range(many))


class SumPapersTest(unittest.TestCase):
    def test_small_heaps(self):
        for places, words in heaps():
            sums = plain.sums(places, words)
            for word in plain.all_words(places):
                self.assertIs(is_sum(places, words, word), word in sums)
                paper = sum_paper(places, words, word)
                self.assertIs(type(paper), tuple)
                self.assertIs(lets_sum(places, words, word, paper), word in sums)
                if word in sums:
                    self.assertEqual(paper[0], "lot")
                    self.assertEqual(plain.total(places, [words[k] for k in paper[1]]), word)
                else:
                    self.assertEqual(paper[0], "apart")
                    self.assertTrue(plain.clash(paper[1], word))
                    self.assertFalse(any(plain.clash(paper[1], told) for told in words))

    def test_just_one_sort_can_be_had(self):
        for places, words in heaps():
            for word in plain.all_words(places):
                lots = [lot for lot in plain.lots_below(len(words)) if self.accepts(places, words, word, ("lot", lot))]
                checks = [check for check in plain.all_words(places)
                          if self.accepts(places, words, word, ("apart", check))]
                self.assertNotEqual(bool(lots), bool(checks))

    def accepts(self, places, words, word, paper):
        try:
            found = lets_sum(places, words, word, paper)
        except InvalidPaper:
            return False
        self.assertIs(found, paper[0] == "lot")
        return True

    def test_shape(self):
        for thing in NO_PAPERS:
            refused(self, ("shape", -1), lets_sum, 2, ("XI", "IX"), "XX", thing)

    def test_lot_papers(self):
        for lot in (None, 0, "", [0, 1], (1, 0), (0, 0), (0, 2), (-1,), (True,), (0, True), ((0,),), "XX"):
            refused(self, ("lot", -1), lets_sum, 2, ("XI", "IX"), "XX", ("lot", lot))
        for lot in ((), (0,), (1,)):
            refused(self, ("sum", -1), lets_sum, 2, ("XI", "IX"), "XX", ("lot", lot))
        self.assertIs(lets_sum(2, ("XI", "IX"), "XX", ("lot", (0, 1))), True)
        self.assertIs(lets_sum(thing=("lot", ()), word="II", words=(), places=2), True)

    def test_apart_papers(self):
        words = ("XI", "IX", "ZZ")
        for check in (None, 0, (), "X", "XXX", "xx", ("XX",), True):
            refused(self, ("check", -1), lets_sum, 2, words, "ZI", ("apart", check))
        refused(self, ("clash", 0), lets_sum, 2, words, "ZI", ("apart", "ZZ"))
        refused(self, ("clash", 1), lets_sum, 2, words, "ZI", ("apart", "IZ"))
        refused(self, ("clash", 2), lets_sum, 2, words, "ZI", ("apart", "XI"))
        refused(self, ("apart", -1), lets_sum, 2, words, "YY", ("apart", "XX"))
        refused(self, ("apart", -1), lets_sum, 2, words, "ZI", ("apart", "II"))
        self.assertIs(lets_sum(2, words, "ZI", ("apart", "XX")), False)

    def test_limits(self):
        chance = plain.chance_of(191)
        words = tuple(plain.random_word(chance, 60) for _ in range(60))
        lot = tuple(k for k in range(60) if chance.random() < 0.5)
        word = plain.total(60, [words[k] for k in lot])
        self.assertIs(is_sum(60, words, word), True)
        self.assertIs(lets_sum(60, words, word, sum_paper(60, words, word)), True)
        other = plain.random_word(chance, 60)
        self.assertIs(lets_sum(60, words, other, sum_paper(60, words, other)), is_sum(60, words, other))
        self.assertIs(is_sum(60, words, other), False)

    def test_relation_basis(self):
        chance = plain.chance_of(192)
        houses = list(plain.NAMED) + [(1, ()), (2, ("XI",)), (2, tuple(plain.all_words(2)[1:9]))]
        houses += [plain.random_house(chance, places, many) for places in (1, 2, 3) for many in (3, 7, 9)]
        for house in houses:
            found = relation_basis(house)
            self.assertIs(type(found), tuple)
            self.assertTrue(plain.lots_independent(found))
            self.assertEqual(plain.lots_spanned(found), set(plain.relations(house)))
        self.assertEqual(relation_basis(house=plain.TRIO), ((0, 1, 2),))

    def test_example(self):
        found = (sum_paper(2, ("XI", "IX"), "XX"), relation_basis(plain.TRIO))
        self.assertEqual(found, (("lot", (0, 1)), ((0, 1, 2),)))


class WishesTest(unittest.TestCase):
    def fits(self, words, wishes, word):
        return all(plain.clash(word, told) == (wish == 1) for told, wish in zip(words, wishes))

    def test_small_heaps(self):
        for places, words in heaps():
            for wishes in itertools.product((0, 1), repeat=len(words)):
                fitting = [word for word in plain.all_words(places) if self.fits(words, wishes, word)]
                paper = wish_paper(places, words, wishes)
                self.assertIs(lets_wishes(places, words, wishes, paper), bool(fitting))
                if fitting:
                    self.assertIn(word_by(places, words, wishes), fitting)
                    self.assertEqual(paper[0], "word")
                    self.assertIn(paper[1], fitting)
                    continue
                with self.assertRaises(Odd) as caught:
                    word_by(places, words, wishes)
                for lot in (caught.exception.lot, paper[1]):
                    self.assertIn(lot, plain.lots_below(len(words)))
                    self.assertEqual(plain.total(places, [words[k] for k in lot]), "I" * places)
                    self.assertEqual(sum(wishes[k] for k in lot) % 2, 1)
                self.assertEqual(paper[0], "odd")

    def test_shape(self):
        for thing in NO_PAPERS + (("lot", ()), ("apart", "ZI"), ("word",), ("odd",), ["odd", (0,)]):
            refused(self, ("shape", -1), lets_wishes, 2, ("XI", "IX"), (1, 0), thing)

    def test_word_papers(self):
        words = ("XI", "IX", "ZZ")
        for word in (None, 0, (), "X", "XXX", "xx", ("XX",), True):
            refused(self, ("word", -1), lets_wishes, 2, words, (1, 0, 1), ("word", word))
        refused(self, ("clash", 0), lets_wishes, 2, words, (1, 0, 1), ("word", "II"))
        refused(self, ("clash", 0), lets_wishes, 2, words, (0, 0, 1), ("word", "ZI"))
        refused(self, ("clash", 1), lets_wishes, 2, words, (1, 0, 1), ("word", "ZZ"))
        refused(self, ("clash", 2), lets_wishes, 2, words, (1, 0, 1), ("word", "ZI"))
        self.assertIs(lets_wishes(2, words, (1, 0, 1), ("word", "YI")), True)

    def test_odd_papers(self):
        words, wishes = ("X", "Y", "Z", "I"), (1, 0, 0, 1)
        for lot in (None, 0, "", [0, 1, 2], (1, 0), (0, 4), (True,), ((0,),), "X"):
            refused(self, ("lot", -1), lets_wishes, 1, words, wishes, ("odd", lot))
        for lot in ((0,), (1, 2), (0, 3)):
            refused(self, ("sum", -1), lets_wishes, 1, words, wishes, ("odd", lot))
        for lot in ((), (0, 1, 2, 3)):
            refused(self, ("even", -1), lets_wishes, 1, words, wishes, ("odd", lot))
        self.assertIs(lets_wishes(1, words, wishes, ("odd", (0, 1, 2))), False)
        self.assertIs(lets_wishes(thing=("odd", (3,)), wishes=wishes, words=words, places=1), False)

    def test_limits(self):
        chance = plain.chance_of(193)
        words = tuple(plain.random_word(chance, 60) for _ in range(59))
        wishes = tuple(chance.randrange(2) for _ in range(59))
        self.assertTrue(self.fits(words, wishes, word_by(60, words, wishes)))
        lot = tuple(k for k in range(59) if chance.random() < 0.5)
        more = words + (plain.total(60, [words[k] for k in lot]),)
        for last in (0, 1):
            paper = wish_paper(60, more, wishes + (last,))
            fits = (sum(wishes[k] for k in lot) + last) % 2 == 0
            self.assertEqual(paper[0], "word" if fits else "odd")
            self.assertIs(lets_wishes(60, more, wishes + (last,), paper), fits)

    def test_example(self):
        found = (word_by(1, ("X", "Z"), (1, 0)), wish_paper(1, ("X", "Y", "Z"), (1, 0, 0)))
        self.assertEqual(found, ("Z", ("odd", (0, 1, 2))))


if __name__ == "__main__":
    unittest.main()

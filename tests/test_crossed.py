"""[53] crossed bases, [54] balances."""

import unittest

from clashborn.balances import balance_of
from clashborn.crossed import crossed_basis, lets_crossed
from clashborn.errors import InvalidPaper, Odd
from clashborn.signs import sign_word
from tests import plain
from tests.plain import BOTH, FIVE, LINE, LONES, LONG, MORE, SIX, TRIO


def heaps(seed):
    """Pairs (places, words), with blank and like words among them."""
    chance = plain.chance_of(seed)
    for places in (1, 2, 3, 5):
        for many in (0, 1, 2, 4, 7):
            words = [plain.random_word(chance, places) for _ in range(many)]
            yield places, tuple(words)
            yield places, tuple(words[:2] + ["I" * places] + words[:4])
            # Words of X and I alone are all apart; some of them have a rest beside pairs.
            yield places, tuple("".join(chance.choice("IX") for _ in range(places)) for _ in range(many))
            yield places, tuple(word[:1] + "".join(chance.choice("IZ") for _ in word[1:]) for word in words)


def plain_rank(places, words):
    spanned = plain.sums(places, words)
    rest = [word for word in spanned if not any(plain.clash(word, other) for other in words)]
    return len(spanned).bit_length() - len(rest).bit_length()


class CrossedTest(unittest.TestCase):
    def test_bases_hold(self):
        ranks = set()
        for places, words in heaps(530):
            found = crossed_basis(places, words)
            self.assertEqual((type(found), len(found), type(found[0]), type(found[1])), (tuple, 2, tuple, tuple))
            pairs, rest = found
            spanned = plain.sums(places, words)
            every = [word for pair in pairs for word in pair] + list(rest)
            for k, pair in enumerate(pairs):
                self.assertEqual((type(pair), len(pair)), (tuple, 2))
                self.assertTrue(plain.clash(*pair))
                for other in pairs[:k]:
                    self.assertFalse(any(plain.clash(one, two) for one in pair for two in other))
            for word in rest:
                self.assertFalse(any(plain.clash(word, other) for other in words))
            self.assertTrue(plain.is_basis(places, tuple(every), spanned))
            self.assertEqual(lets_crossed(places, words, found), plain_rank(places, words))
            self.assertEqual(2 * len(pairs), plain_rank(places, words))
            ranks.add((len(pairs) > 0, len(rest) > 0))
        self.assertEqual(len(ranks), 4)

    def test_no_words_and_blank_words(self):
        for words in ((), ("II",), ("II", "II")):
            self.assertEqual(crossed_basis(2, words), ((), ()))
            self.assertEqual(lets_crossed(2, words, ((), ())), 0)

    def test_sixty_words_on_sixty_places(self):
        chance = plain.chance_of(531)
        words = tuple(plain.random_word(chance, 60) for _ in range(60))
        found = crossed_basis(places=60, words=words)
        self.assertEqual(lets_crossed(60, words, found), 2 * len(found[0]))
        self.assertEqual(2 * len(found[0]) + len(found[1]), 60)

    def refused(self, wanted, places, words, thing):
        with self.assertRaises(InvalidPaper) as caught:
            lets_crossed(places, words, thing)
        self.assertEqual((caught.exception.word, caught.exception.at), wanted, thing)

    def test_entries(self):
        words = ("XII", "ZII", "IXI", "IZI", "IIX")
        pairs, rest = (("XII", "ZII"), ("IXI", "IZI")), ("IIX",)
        self.assertEqual(lets_crossed(3, words, (pairs, rest)), 4)
        for thing in (None, True, 0, "", (), (pairs,), (pairs, rest, ()), [pairs, rest], (list(pairs), rest),
                      (pairs, list(rest)), (pairs, None), ("", rest), (pairs, "IIX")):
            self.refused(("shape", -1), 3, words, thing)
        for pair in (None, 0, "XI", (), ("XII",), ("XII", "ZII", "YII"), ["XII", "ZII"], ("XII", "IIZ"), ("IIZ", "XII"),
                     ("XII", None), ("XI", "ZI"), (True, "ZII"), ("XIY", "ZII")):
            self.refused(("pair", 0), 3, words, ((pair,), rest))
            self.refused(("pair", 1), 3, words, ((("XII", "ZII"), pair, None), rest))
        for pair in (("XII", "XII"), ("XII", "IXI"), ("III", "XII"), ("XXI", "ZZI")):
            self.refused(("clash", 0), 3, words, ((pair, None), rest))
        self.refused(("clash", 1), 3, words, ((("IXI", "IZI"), ("XII", "XII")), rest))
        # A word of the pair clashes with the first or the second one of an earlier pair, be it the first or the second.
        self.refused(("apart", 1), 3, words, ((("XII", "ZII"), ("XXI", "IZI")), rest))
        self.refused(("apart", 1), 3, words, ((("XII", "ZII"), ("IXI", "ZZI")), rest))
        self.refused(("apart", 1), 3, words, ((("XII", "ZII"), ("XII", "ZII")), rest))
        self.refused(("apart", 2), 3, words, (pairs + (("IYI", "IXX"),), rest))
        for word in (None, 0, "", "II", "IIZ", "XII", "XIX", "iix", ("IIX",), ["IIX"]):
            self.refused(("rest", 0), 3, words, (pairs, (word, None)))
            self.refused(("rest", 1), 3, words, (pairs, ("IIX", word)))
        for thing in ((pairs, ()), (pairs, ("IIX", "IIX")), (pairs, ("III",)), (pairs, ("IIX", "III")), ((), rest),
                      ((("XII", "ZII"),), rest)):
            self.refused(("basis", -1), 3, words, thing)
        # Pairs come before the rest, each pair before the next one.
        self.refused(("pair", 0), 3, words, ((None,), (None,)))
        self.refused(("clash", 0), 3, words, ((("XII", "XII"), None), (None,)))
        self.refused(("rest", 0), 2, ("XI",), ((), ("IX",)))

    def test_any_crossed_basis_is_let(self):
        words = ("XI", "ZZ", "IX")
        spanned = sorted(plain.sums(2, words))
        let = 0
        for one in spanned:
            for other in spanned:
                for word in spanned:
                    every = (one, other, word)
                    good = plain.clash(one, other) and not any(plain.clash(word, told) for told in words)
                    good = good and plain.is_basis(2, every, spanned)
                    try:
                        found = lets_crossed(2, words, (((one, other),), (word,)))
                    except InvalidPaper:
                        found = None
                    self.assertEqual(found, 2 if good else None)
                    let += good
        self.assertGreater(let, 5)

    def test_examples(self):
        self.assertEqual(crossed_basis(2, ("XI", "II", "XI")), ((), ("XI",)))
        self.assertEqual(lets_crossed(2, ("XI", "ZZ", "IX"), ((("XI", "ZZ"),), ("XX",))), 2)
        self.refused(("basis", -1), 2, ("XI", "ZZ", "IX"), ((("XI", "ZZ"),), ()))


class BalanceTest(unittest.TestCase):
    def test_against_plain_signs(self):
        signs = set()
        for house in plain.small_houses(540):
            for piece, lot in enumerate(plain.pieces(house)):
                odds = [part for part in plain.relations(house, lot) if plain.odd(house, part)]
                if odds:
                    with self.assertRaises(Odd) as caught:
                        balance_of(house, piece)
                    self.assertIn(caught.exception.lot, odds)
                    signs.add("odd")
                    continue
                by = sign_word(house, piece)
                wanted = sum(1 - 2 * plain.sign(by, word) for word in plain.sums(*plain.alone(house, piece)))
                found = balance_of(house, piece)
                self.assertEqual(found, wanted)
                self.assertIs(type(found), int)
                signs.add((found > 0) - (found < 0))
        self.assertEqual(signs, {-1, 0, 1, "odd"})

    def test_edges(self):
        self.assertEqual(balance_of(BOTH, 1), 0)
        self.assertEqual(balance_of(LONES, 2), 0)
        self.assertEqual(balance_of(LONG, 0), 0)
        self.assertRaises(Odd, balance_of, MORE, 0)
        self.assertRaises(Odd, balance_of, plain.WHOLE, 0)
        self.assertEqual(balance_of(house=TRIO, piece=0), -2)

    def test_very_great_balances(self):
        row = tuple(("I" * (k // 2) + ("X" if k % 2 == 0 else "ZZ") + "I" * 20)[:20] for k in range(39))
        for many in (2, 4, 6, 8, 10):
            house = (20, row[:many])
            signs = [plain.sign(sign_word(house, 0), word) for word in plain.sums(*house)]
            self.assertEqual(balance_of(house, 0), sum(1 - 2 * sign for sign in signs))
        # A row of an even number of words has no rest but the blank word.
        for many in (2, 8, 20, 38):
            self.assertEqual(abs(balance_of((20, row[:many]), 0)), 2 ** (many // 2))

    def test_examples(self):
        self.assertEqual(balance_of(SIX, 0), -8)
        with self.assertRaises(Odd) as caught:
            balance_of(FIVE, 0)
        self.assertEqual(caught.exception.lot, (0, 2, 4))


if __name__ == "__main__":
    unittest.main()

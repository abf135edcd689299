"""[18] dimension, bases, rest and rank."""

import unittest

from clashborn.spans import apart_basis, are_independent, dimension_of, first_basis, rank_of, rest_basis
from tests import plain


def heaps():
    """Tuples of words, blank and like ones among them, on few places."""
    chance = plain.chance_of(180)
    yield 1, ()
    yield 2, ("II",)
    yield 2, ("II", "II", "XI", "XI")
    for places in (1, 2, 3):
        for many in range(8):
            yield places, tuple(chance.choice(plain.all_words(places)) for _ in range(many))


class SpansTest(unittest.TestCase):
    def test_dimension_and_independence(self):
        for places, words in heaps():
            wanted = plain.dimension(places, words)
            self.assertEqual(dimension_of(places, words), wanted)
            self.assertEqual(dimension_of(words=words, places=places), wanted)
            self.assertIs(are_independent(places, words), wanted == len(words))
        self.assertIs(are_independent(2, ()), True)
        self.assertIs(are_independent(2, ("XI", "XI")), False)
        self.assertIs(are_independent(2, ("II",)), False)

    def test_first_basis(self):
        for places, words in heaps():
            found = first_basis(places, words)
            wanted = tuple(k for k, word in enumerate(words) if word not in plain.sums(places, words[:k]))
            self.assertEqual(found, wanted)

    def test_apart_basis(self):
        for places, words in heaps():
            apart = [word for word in plain.all_words(places) if not any(plain.clash(word, told) for told in words)]
            self.assertTrue(plain.is_basis(places, apart_basis(places, words), apart))
        self.assertTrue(plain.is_basis(2, apart_basis(2, ()), plain.all_words(2)))

    def test_rest_and_rank(self):
        for places, words in heaps():
            sums = plain.sums(places, words)
            rest = [word for word in sums if not any(plain.clash(word, told) for told in words)]
            self.assertTrue(plain.is_basis(places, rest_basis(places, words), rest))
            found = rank_of(places, words)
            self.assertEqual(found, plain.dimension(places, words) - plain.dimension(places, rest))
            self.assertEqual(found % 2, 0)

    def test_sixty_words_of_sixty_places(self):
        chance = plain.chance_of(181)
        words = tuple(plain.random_word(chance, 60) for _ in range(30))
        doubled = words + tuple(plain.plus(words[k - 1], words[k]) for k in range(30))
        self.assertEqual(dimension_of(60, doubled), dimension_of(60, words))
        self.assertEqual(first_basis(60, doubled), first_basis(60, words))
        apart = apart_basis(60, doubled)
        self.assertEqual(len(apart), 120 - dimension_of(60, words))
        self.assertTrue(are_independent(60, apart))
        self.assertFalse(any(plain.clash(one, other) for one in apart for other in doubled))
        rest = rest_basis(60, doubled)
        self.assertTrue(are_independent(60, rest))
        self.assertEqual(dimension_of(60, words + rest), dimension_of(60, words))
        self.assertFalse(any(plain.clash(one, other) for one in rest for other in doubled))
        self.assertEqual(rank_of(60, doubled), dimension_of(60, words) - len(rest))

    def test_example(self):
        found = (
            dimension_of(1, ("X", "Y", "Z")), first_basis(1, ("X", "I", "Z", "Y")), rest_basis(2, ("XI", "IX", "ZZ")),
        )
        self.assertEqual(found, (2, (0, 2), ("XX",)))


if __name__ == "__main__":
    unittest.main()

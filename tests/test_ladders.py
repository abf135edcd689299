"""[47] ladders of made words, [48] rows that are used, ladders trimmed and joined."""

import itertools
import unittest

from clashborn.climbing import ladder_of
from clashborn.errors import NotUsable
from clashborn.ladderchecker import lets_ladder
from clashborn.laddertools import ladders_joined, trimmed, used_rows
from tests import plain
from tests.plain import BOTH, LINE, LONES, MORE, SIX, TRIO


def plain_used(house, ladder, row):
    """used_rows by plain trial."""
    if ladder[row] in house[1]:
        return ()
    for i, j in itertools.combinations(range(row), 2):
        if plain.clash(ladder[i], ladder[j]) and plain.plus(ladder[i], ladder[j]) == ladder[row]:
            return (i, j)
    raise AssertionError("no ladder")


def plain_trimmed(house, ladder):
    needed = {len(ladder) - 1}
    edge = [len(ladder) - 1]
    while edge:
        for row in plain_used(house, ladder, edge.pop()):
            if row not in needed:
                needed.add(row)
                edge.append(row)
    return tuple(ladder[row] for row in sorted(needed))


def random_ladder(chance, house, rows):
    """A ladder of any rows, like ones and told words that are sums among them."""
    found = [chance.choice(house[1])]
    while len(found) < rows:
        sums = [plain.plus(a, b) for a, b in itertools.combinations(found, 2) if plain.clash(a, b)]
        found.append(chance.choice(sums if sums and chance.random() < 0.6 else list(house[1]) + found[:1]))
        if found[-1] not in house[1] and found[-1] not in sums:
            found.pop()
    return tuple(found)


class LadderOfTest(unittest.TestCase):
    def hold(self, house, word, many):
        ladder = ladder_of(house, word)
        self.assertIs(type(ladder), tuple)
        self.assertEqual(ladder[-1], word)
        self.assertEqual(lets_ladder(house, ladder), len(ladder))
        self.assertLessEqual(len(ladder), many ** 3 + 40 * many)
        return ladder

    def test_each_made_word_has_one(self):
        for house in plain.small_houses(470):
            for piece, lot in enumerate(plain.pieces(house)):
                made = sorted(plain.made_words(plain.alone(house, piece)))
                for word in made[::1 + len(made) // 40]:
                    self.assertTrue(plain.is_ladder(house, self.hold(house, word, len(lot))))

    def test_told_words(self):
        for house in (LINE, TRIO, SIX, MORE, LONES, BOTH):
            for word in house[1]:
                self.assertEqual(ladder_of(house, word), (word,))

    def test_fifteen_told_words(self):
        chance = plain.chance_of(471)
        chain = tuple("I" * k + "XZ" + "I" * (14 - k) for k in range(14))
        found = [plain.random_house(chance, 60, 15), plain.six_house(chance, 15), plain.ringed_house(chance, 8, 13)]
        found += [plain.paired_house(chance, points, 15) for points in (4, 5, 6, 12, 16)]
        found += [(16, chain + ("I" * k + "Z" + "I" * (15 - k),)) for k in (0, 2, 3, 7, 13)]
        for house in found:
            for _ in range(4):
                word = house[1][0]
                for _ in range(150):
                    by = chance.choice(house[1])
                    word = plain.plus(word, by) if plain.clash(word, by) else word
                self.hold(house, word, 15)

    def test_words_that_are_not_made(self):
        for house in (LINE, TRIO, SIX, LONES, BOTH, (1, ())):
            for word in set(plain.all_words(house[0])) - plain.made_words(house):
                with self.assertRaises(NotUsable) as caught:
                    ladder_of(house, word)
                self.assertEqual((caught.exception.word, caught.exception.at), ("word", -1))

    def test_examples(self):
        self.assertEqual(ladder_of(LINE, "YY")[-1], "YY")
        self.hold(LINE, "YY", 3)


class LadderToolsTest(unittest.TestCase):
    def test_against_plain_trial(self):
        chance = plain.chance_of(480)
        likes = 0
        for house in plain.small_houses(480):
            if not house[1]:
                continue
            for rows in (1, 2, 4, 9, 16):
                ladder = random_ladder(chance, house, rows)
                likes += len(set(ladder)) < len(ladder)
                for row in range(len(ladder)):
                    found = used_rows(house, ladder, row)
                    self.assertEqual(found, plain_used(house, ladder, row), (house, ladder, row))
                    self.assertIs(type(found), tuple)
                short = trimmed(house, ladder)
                self.assertEqual(short, plain_trimmed(house, ladder))
                self.assertEqual(lets_ladder(house, short), len(short))
                other = random_ladder(chance, house, chance.randrange(1, 9))
                joined = ladders_joined(house, ladder, other)
                fresh = [word for k, word in enumerate(other) if word not in ladder and word not in other[:k]]
                self.assertEqual(joined, ladder + tuple(fresh))
                self.assertEqual(lets_ladder(house, joined), len(joined))
        self.assertGreater(likes, 20)

    def test_like_rows_and_told_sums(self):
        # YZ can be made of the rows 0 and 2, or of 1 and 2; the first pair counts.
        ladder = ("XI", "XI", "ZZ", "ZZ", "YZ", "YZ", "IX", "YY", "XI")
        self.assertEqual(used_rows(LINE, ladder, 4), (0, 2))
        self.assertEqual(used_rows(LINE, ladder, 5), (0, 2))
        self.assertEqual(used_rows(LINE, ladder, 7), (4, 6))
        self.assertEqual(used_rows(LINE, ladder, 8), ())
        self.assertEqual(trimmed(LINE, ladder), ("XI",))
        self.assertEqual(trimmed(LINE, ladder[:8]), ("XI", "ZZ", "YZ", "IX", "YY"))
        # A row can come before the second row of a pair that gives it, too.
        house = (1, ("X", "Z"))
        self.assertEqual(used_rows(house, ("X", "Z", "Y", "X", "Y"), 4), (0, 1))
        self.assertEqual(used_rows(house, ("Z", "X", "Y", "Z", "Y"), 4), (0, 1))
        # Y is told of TRIO, so no rows are used for it.
        self.assertEqual(used_rows(TRIO, ("X", "Z", "Y"), 2), ())
        self.assertEqual(trimmed(TRIO, ("X", "Z", "Y")), ("Y",))
        self.assertEqual(ladders_joined(LINE, ("XI", "XI"), ("ZZ", "XI", "ZZ")), ("XI", "XI", "ZZ"))
        self.assertEqual(ladders_joined(house=LINE, ladder=("XI",), other=("XI",)), ("XI",))
        self.assertEqual(used_rows(LINE, ("XI",), 0), ())
        self.assertEqual(trimmed(LINE, ("XI",)), ("XI",))

    def test_four_thousand_rows(self):
        house = (3, MORE[1])
        ladder = tuple(ladder_of(house, "YZX")[:-1]) + ("XII", "ZII", "YII") * 1300 + ladder_of(house, "YZX")
        self.assertEqual(lets_ladder(house, ladder), len(ladder))
        short = trimmed(house, ladder)
        self.assertEqual(trimmed(house, short), short)
        self.assertLessEqual(len(short), len(ladder_of(house, "YZX")))
        self.assertEqual(used_rows(house, ladder, len(ladder) - 1), plain_used(house, ladder, len(ladder) - 1))
        self.assertEqual(ladders_joined(house, short, ladder)[:len(short)], short)

    def test_what_is_not_as_stated(self):
        bads = (None, True, 0, "", (), ["XI"], ("XI", "IX", "XX"), ("II",), ("YZ",), ("XI", None), ("XII",), "XI")
        for bad in bads:
            for function, args in ((used_rows, (bad, 0)), (used_rows, (bad, None)), (trimmed, (bad,)),
                                   (ladders_joined, (bad, ("XI",))), (ladders_joined, (bad, bad))):
                with self.assertRaises(NotUsable) as caught:
                    function(LINE, *args)
                self.assertEqual((caught.exception.word, caught.exception.at), ("ladder", -1))
            with self.assertRaises(NotUsable) as caught:
                ladders_joined(LINE, ("XI",), bad)
            self.assertEqual((caught.exception.word, caught.exception.at), ("other", -1))

    def test_examples(self):
        ladder = ("XI", "IX", "ZZ", "YZ")
        self.assertEqual((used_rows(LINE, ladder, 3), used_rows(LINE, ladder, 2)), ((0, 2), ()))
        self.assertEqual(trimmed(LINE, ladder), ("XI", "ZZ", "YZ"))
        joined = ladders_joined(LINE, ("XI", "ZZ", "YZ"), ("ZZ", "IX", "ZY"))
        self.assertEqual(joined, ("XI", "ZZ", "YZ", "IX", "ZY"))


if __name__ == "__main__":
    unittest.main()

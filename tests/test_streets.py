"""[87] street webs and coins, [88] coins that slide along streets."""

import itertools
import unittest

from clashborn.comings import comes_of
from clashborn.errors import InvalidPaper, NotUsable, Shared
from clashborn.fewest import fewest_turns
from clashborn.kinds import is_house, is_lot
from clashborn.streetcoins import coins_come, fewest_jumps, lets_slides, slid, slides_of
from clashborn.streets import coins_word, house_of_streets, is_street_web, point_word, street_web
from clashborn.turning import turned
from tests import plain

WEB = (3, ((0, 1), (1, 2)))


def lots_of(web):
    return plain.lots_below(web[0])


def reached(web, coins):
    """All coins that come of coins, by plain sliding."""
    found = {coins}
    edge = [coins]
    while edge:
        here = edge.pop()
        for street in web[1]:
            if len(set(street) & set(here)) == 1:
                there = tuple(sorted(set(here) ^ set(street)))
                if there not in found:
                    found.add(there)
                    edge.append(there)
    return found


def random_web(chance, points, streets):
    pairs = list(itertools.combinations(range(points), 2))
    return (points, tuple(sorted(chance.sample(pairs, min(streets, len(pairs))))))


def tree_web(chance, points):
    return (points, tuple(sorted((chance.randrange(point), point) for point in range(1, points))))


def webs():
    """Street webs of at most seven points: one point, no streets, paths, rings, parts, and random ones."""
    found = [(1, ()), (2, ()), (5, ()), (2, ((0, 1),)), WEB, (4, ((0, 1), (0, 2), (0, 3))), (4, ((0, 3), (1, 2)))]
    found += [(6, ((0, 1), (0, 5), (1, 2), (2, 3), (3, 4), (4, 5))), (7, ((0, 6), (1, 3), (2, 6), (3, 5)))]
    chance = plain.chance_of(88)
    found += [random_web(chance, points, streets) for points, streets in ((4, 4), (5, 3), (5, 6), (6, 4), (6, 8), (7, 6))]
    return found + [tree_web(chance, points) for points in (3, 5, 6, 7)]


def wide_webs():
    chance = plain.chance_of(89)
    found = [tree_web(chance, points) for points in (20, 39, 40)] + [random_web(chance, 40, 40), random_web(chance, 12, 40)]
    return found + [(40, ()), (40, tuple((k, k + 1) for k in range(39))), (40, tuple((0, k) for k in range(1, 40)))]


class StreetsTest(unittest.TestCase):
    def test_examples(self):
        self.assertEqual(house_of_streets(WEB), (2, ("ZI", "XX")))

    def test_is_street_web(self):
        for web in webs() + wide_webs():
            self.assertIs(is_street_web(web), True, web)
        for thing in (None, True, 0, "", (), (3,), [3, ()], (3, []), (0, ()), (-1, ()), (True, ()), (3, ((0, 3),)),
                      (3, ((1, 0),)), (3, ((1, 1),)), (3, ((1, 2), (0, 1))), (3, ((0, 1), (0, 1))), (3, ([0, 1],)),
                      (3, ((False, True),)), (3, ((0, True),)), (3, ((-1, 0),)), (3, (("0", "1"),)), (3, (), ()), (3, "")):
            self.assertIs(is_street_web(thing), False, thing)

    def test_street_web(self):
        chance = plain.chance_of(90)
        for web in webs() + wide_webs():
            streets = [street if chance.random() < 0.5 else street[::-1] for street in web[1]]
            chance.shuffle(streets)
            self.assertEqual(street_web(web[0], *streets), web)
        for bad in (None, True, 0, "", (), (0,), (0, 1, 2), [0, 2], (0, 3), (1, 1), (-1, 0), (0, True), ("0", "2"), (1, 0), (0, 1)):
            with self.assertRaises(NotUsable) as caught:
                street_web(3, (1, 2), (0, 1), bad, bad)
            self.assertEqual((caught.exception.word, caught.exception.at), ("streets", 2))

    def test_point_words(self):
        self.assertEqual([point_word(5, point) for point in range(5)], ["XII", "YII", "ZXI", "ZYI", "ZZX"])
        self.assertEqual((point_word(1, 0), point_word(2, 1), point_word(60, 59)), ("X", "Y", "Z" * 29 + "Y"))
        for points in range(1, 12):
            words = [point_word(points, point) for point in range(points)]
            self.assertEqual({len(word) for word in words}, {(points + 1) // 2})
            for one, other in itertools.combinations(words, 2):
                self.assertIs(plain.clash(one, other), True)

    def test_coins_words(self):
        for points in (1, 2, 5, 6):
            for coins in plain.lots_below(points):
                words = [point_word(points, point) for point in coins]
                self.assertEqual(coins_word(points, coins), plain.total((points + 1) // 2, words))

    def test_houses(self):
        for web in webs() + wide_webs():
            house = house_of_streets(web)
            self.assertIs(is_house(house), True)
            self.assertEqual(house[0], (web[0] + 1) // 2)
            self.assertEqual(house[1], tuple(coins_word(web[0], street) for street in web[1]))
            for (one, word), (other, told) in itertools.combinations(list(zip(web[1], house[1])), 2):
                self.assertEqual(plain.clash(word, told), len(set(one) & set(other)) == 1)

    def refused(self, function, *args):
        with self.assertRaises(NotUsable) as caught:
            function(*args)
        return (caught.exception.word, caught.exception.at)

    def test_points_and_coins_are_refused(self):
        for point in (3, -1, True, False, None, "0", (0,), 10 ** 40):
            self.assertEqual(self.refused(point_word, 3, point), ("point", -1))
        for coins in (None, True, 0, "", [0], (3,), (0, 0), (1, 0), (-1,), (True,), ("0",), ((0,),)):
            self.assertEqual(self.refused(coins_word, 3, coins), ("coins", -1))
            for function, more in ((coins_come, ((0,),)), (fewest_jumps, ((0,),)), (slid, (0,)), (lets_slides, ((),)),
                                   (slides_of, ((0,),))):
                self.assertEqual(self.refused(function, WEB, coins, *more), ("coins", -1))
                self.assertEqual(self.refused(function, WEB, coins, coins), ("coins", -1))
                if function in (coins_come, fewest_jumps, slides_of):
                    self.assertEqual(self.refused(function, WEB, (0,), coins), ("other", -1))


class SlidesTest(unittest.TestCase):
    def test_by_sliding(self):
        chance = plain.chance_of(91)
        for web in webs():
            lots = lots_of(web)
            for coins in lots if len(lots) <= 32 else [(), lots[-1]] + chance.sample(lots, 12):
                found = reached(web, coins)
                for other in lots if len(lots) <= 32 else [(), lots[-1]] + chance.sample(lots, 12) + sorted(found)[:5]:
                    comes = other in found
                    self.assertIs(coins_come(web, coins, other), comes)
                    jumps, slides = fewest_jumps(web, coins, other), slides_of(web, coins, other)
                    if not comes:
                        self.assertEqual((jumps, slides), (None, None))
                        continue
                    self.assertEqual((type(jumps), type(slides)), (int, tuple))
                    self.assertEqual(jumps, len(set(coins) ^ set(other)) // 2)
                    self.assertEqual(lets_slides(web, coins, slides), other, (web, coins, slides))

    def test_one_slide(self):
        for web in webs():
            for coins in lots_of(web)[::2]:
                for street, ends in enumerate(web[1]):
                    if len(set(ends) & set(coins)) == 1:
                        there = slid(web, coins, street)
                        self.assertEqual(there, tuple(sorted(set(coins) ^ set(ends))))
                        self.assertIs(is_lot(web[0], there), True)
                        self.assertEqual(lets_slides(web, coins, (street,)), there)
                    else:
                        self.assertEqual(self.refused(NotUsable, slid, web, coins, street), ("street", -1))
                        self.assertEqual(self.refused(InvalidPaper, lets_slides, web, coins, (street, None)), ("barred", 0))

    def refused(self, error, function, *args):
        with self.assertRaises(error) as caught:
            function(*args)
        return (caught.exception.word, caught.exception.at)

    def test_streets_are_refused(self):
        for street in (2, -1, True, False, None, "0", (0, 1), [0], 10 ** 40):
            self.assertEqual(self.refused(NotUsable, slid, WEB, (0,), street), ("street", -1))
            self.assertEqual(self.refused(InvalidPaper, lets_slides, WEB, (0,), (street, street)), ("street", 0))
            self.assertEqual(self.refused(InvalidPaper, lets_slides, WEB, (0,), (0, 1, street)), ("street", 2))
            self.assertEqual(self.refused(InvalidPaper, lets_slides, WEB, (0,), (1, street)), ("barred", 0))
        for thing in (None, True, 0, "", [], [0], "0"):
            self.assertEqual(self.refused(InvalidPaper, lets_slides, WEB, (0,), thing), ("shape", -1))
        self.assertEqual(lets_slides(WEB, (0,), ()), (0,))
        self.assertEqual(lets_slides(WEB, (0, 1), (1, 0)), (1, 2))

    def test_as_words_turn(self):
        # [92]: a coin can slide exactly if the street's word clashes with the word of the coins, which it turns alike.
        for web in webs():
            house = house_of_streets(web)
            for coins in lots_of(web)[::3]:
                word = coins_word(web[0], coins)
                for street, ends in enumerate(web[1]):
                    can = len(set(ends) & set(coins)) == 1
                    self.assertIs(plain.clash(house[1][street], word), can)
                    if can:
                        self.assertEqual(turned(word, house[1][street]), coins_word(web[0], slid(web, coins, street)))

    def test_as_words_come(self):
        # [92]: comes_of tells coins_come, fewest_turns tells fewest_jumps.
        chance = plain.chance_of(92)
        told = 0
        for web in webs() + wide_webs()[:3]:
            house = house_of_streets(web)
            for _ in range(25):
                coins = tuple(point for point in range(web[0]) if chance.random() < 0.5)
                other = tuple(point for point in range(web[0]) if chance.random() < 0.5)
                if chance.random() < 0.6:
                    other = chance.choice(sorted(reached(web, coins))) if web[0] <= 7 else other
                words = (coins_word(web[0], coins), coins_word(web[0], other))
                self.assertIs(coins_come(web, coins, other), comes_of(house, *words), (web, coins, other))
                if coins_come(web, coins, other):
                    try:
                        self.assertEqual(fewest_turns(house, *words), fewest_jumps(web, coins, other), (web, coins, other))
                        told += 1
                    except Shared:
                        self.fail((web, coins))
        self.assertGreater(told, 100)

    def test_wide_webs(self):
        chance = plain.chance_of(93)
        for web in wide_webs():
            for _ in range(5):
                coins = tuple(point for point in range(web[0]) if chance.random() < chance.choice((0.1, 0.5, 0.9)))
                here = coins
                for _ in range(200 if web[1] else 0):
                    street = chance.randrange(len(web[1]))
                    if len(set(web[1][street]) & set(here)) == 1:
                        here = slid(web, here, street)
                self.assertIs(coins_come(web, coins, here), True)
                self.assertEqual(lets_slides(web, coins, slides_of(web, coins, here)), here)
                self.assertEqual(fewest_jumps(web, coins, here), len(set(coins) ^ set(here)) // 2)

    def test_edges(self):
        # No coins, and coins on every point; no streets.
        for web in webs():
            for coins in ((), tuple(range(web[0]))):
                self.assertEqual((coins_come(web, coins, coins), fewest_jumps(web, coins, coins)), (True, 0))
                self.assertEqual(slides_of(web, coins, coins), ())
                self.assertEqual(reached(web, coins), {coins})
        self.assertEqual((fewest_jumps((2, ()), (0,), (1,)), slides_of((2, ()), (0,), (1,))), (None, None))
        self.assertEqual((fewest_jumps((2, ((0, 1),)), (0,), (1,)), slides_of((2, ((0, 1),)), (0,), (1,))), (1, (0,)))
        # As many coins, but not on each part that hangs together.
        self.assertIs(coins_come((4, ((0, 1), (2, 3))), (0, 1), (2, 3)), False)
        self.assertIs(coins_come((4, ((0, 1), (2, 3))), (0, 2), (1, 3)), True)
        self.assertIs(coins_come(WEB, (0,), (0, 1)), False)


if __name__ == "__main__":
    unittest.main()

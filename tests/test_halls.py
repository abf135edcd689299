"""[83] halls and lights, [84] presses, [85] which lights come and how many, [86] plays."""

import itertools
import unittest

from clashborn.comingcounts import coming_count
from clashborn.comings import comes_of
from clashborn.errors import InvalidPaper, NotUsable
from clashborn.halls import hall_of, house_of_hall, is_hall, light_of_word, parts_of, word_of_light
from clashborn.kinds import is_house, is_lot
from clashborn.lettings import is_let
from clashborn.lightcomings import light_comes, lit_lot
from clashborn.lightcounts import light_count
from clashborn.plays import play_levels, play_of
from clashborn.presses import lets_play, may_press, pressed
from clashborn.tiework import pieces_of
from clashborn.turning import turned
from tests import plain

PATH = (3, ((0, 1), (1, 2)))
RULES = ("odd", "lit")
CLIQUE = (4, ((0, 1), (0, 2), (0, 3), (1, 2), (1, 3), (2, 3)))
STAR = (5, ((0, 1), (0, 2), (0, 3), (0, 4)))
RING = (6, ((0, 1), (0, 5), (1, 2), (2, 3), (3, 4), (4, 5)))
BRANCHED = (6, ((0, 1), (1, 2), (2, 3), (2, 5), (3, 4)))
PARTS = (6, ((0, 3), (1, 2), (2, 4)))


def lights_of(hall):
    return plain.lots_below(hall[0])


def neighbours(hall, lamp):
    return {one + other - lamp for one, other in hall[1] if lamp in (one, other)}


def may(hall, rule, light, lamp):
    """By the definition."""
    if rule == "lit":
        return lamp in light
    return len(neighbours(hall, lamp) & set(light)) % 2 == 1


def after(hall, rule, light, lamp):
    changed = neighbours(hall, lamp) if rule == "lit" else {lamp}
    return tuple(sorted(set(light) ^ changed))


def levels(hall, rule, light):
    """For each light that comes the fewest presses, by plain pressing."""
    found = {light: 0}
    edge = [light]
    while edge:
        fresh = []
        for here in edge:
            for lamp in range(hall[0]):
                if may(hall, rule, here, lamp):
                    there = after(hall, rule, here, lamp)
                    if there not in found:
                        found[there] = found[here] + 1
                        fresh.append(there)
        edge = fresh
    return found


def random_hall(chance, lamps, ties):
    pairs = list(itertools.combinations(range(lamps), 2))
    return (lamps, tuple(sorted(chance.sample(pairs, min(ties, len(pairs))))))


def tree_hall(chance, lamps):
    return (lamps, tuple(sorted({(chance.randrange(max(0, lamp - 3), lamp), lamp) for lamp in range(1, lamps)})))


def halls():
    """Halls of at most seven lamps: one lamp, no ties, paths, rings, stars, parts, and random ones."""
    found = [(1, ()), (2, ()), (4, ()), (2, ((0, 1),)), PATH, CLIQUE, STAR, RING, BRANCHED, PARTS, (4, ((0, 2), (1, 3)))]
    found += [(many, tuple((k, k + 1) for k in range(many - 1))) for many in (4, 5, 6, 7)]
    chance = plain.chance_of(83)
    found += [random_hall(chance, lamps, ties) for lamps, ties in ((4, 3), (5, 4), (5, 6), (6, 5), (6, 7), (6, 9), (7, 7), (7, 8))]
    return found + [(5, tuple(itertools.combinations(range(5), 2))), (7, ((0, 1), (1, 2), (2, 3), (2, 5), (3, 4), (5, 6)))]


def wide_halls():
    """Halls of thirty lamps, with parts of all kinds."""
    chance = plain.chance_of(84)
    path = tuple((k, k + 1) for k in range(29))
    found = [(30, path), (30, path + ((0, 29),)), (30, ()), tree_hall(chance, 30)]
    found = [(lamps, tuple(sorted(ties))) for lamps, ties in found]
    found += [(30, tuple(itertools.combinations(range(30), 2))), (30, path[:9] + path[10:19] + path[20:])]
    return found + [random_hall(chance, 30, ties) for ties in (15, 29, 40, 200)]


class HallsTest(unittest.TestCase):
    def test_examples(self):
        self.assertEqual(hall_of(3, (2, 1), (0, 1)), PATH)
        self.assertEqual((house_of_hall(PATH), word_of_light(PATH, "odd", (0, 1))), ((3, ("XII", "ZXI", "IZX")), "YXI"))

    def test_is_hall(self):
        for hall in halls() + wide_halls() + [(10 ** 40, ((0, 10 ** 39),)), (10 ** 59, ())]:
            self.assertIs(is_hall(hall), True, hall)
        for thing in (None, True, 0, "", (), (3,), [3, ()], (3, []), (3, [(0, 1)]), (0, ()), (-1, ()), (True, ()), ("3", ()),
                      (3, ((0, 3),)), (3, ((1, 0),)), (3, ((1, 1),)), (3, ((1, 2), (0, 1))), (3, ((0, 1), (0, 1))),
                      (3, ([0, 1],)), (3, ((0, 1, 2),)), (3, ((0,),)), (3, (0, 1)), (3, ((False, True),)), (3, ((0, True),)),
                      (3, ((-1, 0),)), (3, (("0", "1"),)), (3, (), ()), (3, None), (1, ((0, 1),)), (3, ((0, None),)), (3, "")):
            self.assertIs(is_hall(thing), False, thing)

    def test_hall_of(self):
        chance = plain.chance_of(85)
        for hall in halls() + wide_halls()[:4]:
            ties = [tie if chance.random() < 0.5 else tie[::-1] for tie in hall[1]]
            chance.shuffle(ties)
            self.assertEqual(hall_of(hall[0], *ties), hall)
            self.assertIs(is_hall(hall_of(hall[0], *ties)), True)

    def test_hall_of_refuses_ties(self):
        bads = [None, True, 0, "", "01", (), (0,), (0, 1, 2), [0, 1], (0, 3), (3, 0), (1, 1), (-1, 0), (0, True), (False, 1),
                (None, 1), ("0", "1"), ((0, 1),), (0, 10 ** 40)]
        for bad in bads + [(0, 1), (1, 0)]:
            with self.assertRaises(NotUsable) as caught:
                hall_of(3, (1, 0), bad, None)
            self.assertEqual((caught.exception.word, caught.exception.at), ("ties", 1), bad)
        for bad in bads:
            with self.assertRaises(NotUsable) as caught:
                hall_of(3, bad)
            self.assertEqual((caught.exception.word, caught.exception.at), ("ties", 0), bad)

    def test_parts(self):
        self.assertEqual(parts_of(PARTS), ((0, 3), (1, 2, 4), (5,)))
        self.assertEqual((parts_of((1, ())), parts_of((3, ())), parts_of(PATH)), (((0,),), ((0,), (1,), (2,)), ((0, 1, 2),)))
        for hall in halls() + wide_halls():
            self.assertEqual(parts_of(hall), pieces_of(house_of_hall(hall)))

    def test_houses(self):
        for hall in halls() + wide_halls():
            house = house_of_hall(hall)
            self.assertIs(is_house(house), True)
            for lamp, word in enumerate(house[1]):
                letters = ["X" if at == lamp else "Z" if at < lamp and (at, lamp) in hall[1] else "I" for at in range(hall[0])]
                self.assertEqual(word, "".join(letters))
            for one, other in itertools.combinations(range(hall[0]), 2):
                self.assertEqual(plain.clash(house[1][one], house[1][other]), (one, other) in hall[1])

    def test_words_of_lights(self):
        for hall in halls():
            house = house_of_hall(hall)
            for light in lights_of(hall)[::3]:
                self.assertEqual(word_of_light(hall, "odd", light), plain.total(hall[0], [house[1][k] for k in light]))
                self.assertEqual(word_of_light(hall, "lit", light), "".join("IZ"[k in light] for k in range(hall[0])))

    def test_lights_of_words(self):
        for hall in halls():
            house = house_of_hall(hall)
            for word in plain.all_words(min(hall[0], 4))[::5]:
                word = word + "Y" * (hall[0] - len(word))
                found = light_of_word(hall, word)
                self.assertEqual(found, tuple(k for k, told in enumerate(house[1]) if plain.clash(told, word)))
                self.assertIs(is_lot(hall[0], found), True)
            for light in lights_of(hall)[::5]:
                self.assertEqual(light_of_word(hall, word_of_light(hall, "lit", light)), light)


class PressesTest(unittest.TestCase):
    def test_by_definition(self):
        for hall, rule in itertools.product(halls(), RULES):
            for light in lights_of(hall)[::4]:
                for lamp in range(hall[0]):
                    let = may(hall, rule, light, lamp)
                    self.assertIs(may_press(hall, rule, light, lamp), let)
                    if let:
                        self.assertEqual(pressed(hall, rule, light, lamp), after(hall, rule, light, lamp))
                    else:
                        with self.assertRaises(NotUsable) as caught:
                            pressed(hall, rule, light, lamp)
                        self.assertEqual((caught.exception.word, caught.exception.at), ("lamp", -1))

    def test_as_words_turn(self):
        # [92]: a lamp may be pressed exactly if its told word clashes with the word of the light; what comes is alike.
        for hall, rule in itertools.product(halls() + wide_halls()[:5], RULES):
            house = house_of_hall(hall)
            for light in (lights_of(hall)[::9] if hall[0] < 10 else [(), (0,), (1, 5, 29), tuple(range(30))]):
                word = word_of_light(hall, rule, light)
                for lamp in range(hall[0]):
                    self.assertIs(may_press(hall, rule, light, lamp), plain.clash(house[1][lamp], word))
                    there = pressed(hall, rule, light, lamp) if may_press(hall, rule, light, lamp) else light
                    turn = turned(word, house[1][lamp])
                    self.assertEqual(light_of_word(hall, turn), light_of_word(hall, word_of_light(hall, rule, there)))

    def test_plays_are_checked(self):
        chance = plain.chance_of(86)
        for hall, rule in itertools.product(halls(), RULES):
            for light in lights_of(hall)[::7]:
                here, play = light, []
                for _ in range(chance.randrange(12)):
                    lamp = chance.randrange(hall[0])
                    if may(hall, rule, here, lamp):
                        here = after(hall, rule, here, lamp)
                        play.append(lamp)
                self.assertEqual(lets_play(hall, rule, light, tuple(play)), here)
                for lamp in range(hall[0]):
                    if not may(hall, rule, here, lamp):
                        self.assertEqual(self.refused(hall, rule, light, tuple(play) + (lamp, None)), ("barred", len(play)))

    def refused(self, *args):
        with self.assertRaises(InvalidPaper) as caught:
            lets_play(*args)
        return (caught.exception.word, caught.exception.at)

    def test_entries_in_their_order(self):
        for thing in (None, True, 0, "", [], [0], "0"):
            self.assertEqual(self.refused(PATH, "lit", (0,), thing), ("shape", -1))
        for bad in (3, -1, True, False, None, "0", (0,), [0], 10 ** 59):
            self.assertEqual(self.refused(PATH, "lit", (0,), (bad, bad)), ("lamp", 0))
            self.assertEqual(self.refused(PATH, "lit", (0,), (0, bad, 2)), ("lamp", 1))
            self.assertEqual(self.refused(PATH, "lit", (0,), (2, bad)), ("barred", 0))
        self.assertEqual(self.refused(PATH, "odd", (0,), (0,)), ("barred", 0))
        self.assertEqual(lets_play(PATH, "odd", (0,), ()), (0,))
        self.assertEqual(lets_play(PATH, "odd", (0,), (1, 1) * 500), (0,))


class ComingTest(unittest.TestCase):
    def test_examples(self):
        self.assertEqual((lit_lot(PATH, (0,), (1, 2)), light_count(PATH, "lit", (0,))), ((0, 1), 4))

    def check_lot(self, hall, light, other, lot):
        """Hold the lot against the words of [85]."""
        self.assertIs(is_lot(hall[0], lot), True)
        changed = set(light) ^ set(other)
        for part in parts_of(hall):
            if not changed & set(part):
                self.assertFalse(set(lot) & set(part))
        self.assertIs(is_let(house_of_hall(hall), word_of_light(hall, "lit", light), lot), True)
        for lamp in range(hall[0]):
            self.assertEqual(len(neighbours(hall, lamp) & set(lot)) % 2 == 1, lamp in changed)

    def test_by_pressing(self):
        for hall, rule in itertools.product(halls(), RULES):
            chance = plain.chance_of(hall[0])
            lights = lights_of(hall)
            for light in lights if len(lights) <= 16 else [(), lights[-1]] + chance.sample(lights, 5):
                found = levels(hall, rule, light)
                self.assertEqual(light_count(hall, rule, light), len(found), (hall, rule, light))
                self.assertIs(type(light_count(hall, rule, light)), int)
                for other in lights if len(lights) <= 16 else chance.sample(lights, 12) + chance.sample(sorted(found), 1):
                    comes = other in found
                    self.assertIs(light_comes(hall, rule, light, other), comes, (hall, rule, light, other))
                    if rule == "lit":
                        lot = lit_lot(hall, light, other)
                        if comes:
                            self.check_lot(hall, light, other, lot)
                        else:
                            self.assertIsNone(lot)
                    self.check_play(hall, rule, light, other, found)

    def check_play(self, hall, rule, light, other, found):
        play = play_of(hall, rule, light, other)
        if other not in found:
            self.assertIsNone(play)
            return
        self.assertIs(type(play), tuple)
        self.assertEqual(len(play), found[other])
        self.assertEqual(lets_play(hall, rule, light, play), other)

    def test_levels(self):
        # [92]: play_levels adds up to light_count; by "odd" this is coming_count of the word.
        for hall, rule in itertools.product(halls(), RULES):
            for light in lights_of(hall)[::11]:
                self.assertEqual(play_levels(hall, rule, light), plain.counted(levels(hall, rule, light)))
                self.assertEqual(sum(play_levels(hall, rule, light)), light_count(hall, rule, light))
                if rule == "odd":
                    word = word_of_light(hall, rule, light)
                    self.assertEqual(light_count(hall, rule, light), coming_count(house_of_hall(hall), word))

    def test_edges(self):
        self.assertEqual((play_of((1, ()), "lit", (0,), (0,)), play_of((1, ()), "lit", (0,), ())), ((), None))
        self.assertEqual((light_count((1, ()), "lit", (0,)), light_count((1, ()), "odd", (0,))), (1, 1))
        self.assertEqual((lit_lot((1, ()), (0,), (0,)), lit_lot((1, ()), (0,), ())), ((), None))
        self.assertEqual((play_levels((3, ()), "lit", (0, 2)), play_levels(PATH, "lit", ())), ((1,), (1,)))
        # Lights on one part alone: those of the other parts stay dark.
        for rule in RULES:
            for light in lights_of(PARTS):
                for part in parts_of(PARTS):
                    if not set(light) & set(part):
                        for lamp in part:
                            self.assertIs(light_comes(PARTS, rule, light, tuple(sorted(light + (lamp,)))), False)

    def test_wide_halls_by_presses(self):
        chance = plain.chance_of(87)
        for hall, rule in itertools.product(wide_halls(), RULES):
            for _ in range(4):
                light = tuple(k for k in range(30) if chance.random() < chance.choice((0.1, 0.5)))
                here = light
                for _ in range(60):
                    lamp = chance.randrange(30)
                    here = after(hall, rule, here, lamp) if may(hall, rule, here, lamp) else here
                self.assertIs(light_comes(hall, rule, light, here), True)
                self.assertIs(light_comes(hall, rule, here, light), True)
                self.assertEqual(light_count(hall, rule, light), light_count(hall, rule, here))
                if rule == "lit":
                    self.check_lot(hall, light, here, lit_lot(hall, light, here))
                other = tuple(k for k in range(30) if chance.random() < 0.5)
                self.assertIs(light_comes(hall, rule, light, other), light_comes(hall, rule, other, light))
                if rule == "odd":
                    comes = comes_of(house_of_hall(hall), word_of_light(hall, rule, light), word_of_light(hall, rule, other))
                    self.assertIs(light_comes(hall, rule, light, other), comes)
                else:
                    self.assertIs(lit_lot(hall, light, other) is not None, light_comes(hall, rule, light, other))

    def test_counts_over_all_lights(self):
        # Each light is in just one class, so the classes, each counted once, are all lights.
        for hall, rule in itertools.product(halls(), RULES):
            left = {light: light_count(hall, rule, light) for light in lights_of(hall)}
            while left:
                light = min(left)
                came = levels(hall, rule, light)
                self.assertEqual({left.pop(other) for other in came}, {len(came)})

    def test_large_levels(self):
        # A path of lamps by "lit" is a row of coins: eleven points with two coins, one between each two.
        path = (10, tuple((k, k + 1) for k in range(9)))
        for light in ((0,), (4,), (0, 9), (2, 5, 7)):
            for rule in RULES:
                found = play_levels(path, rule, light)
                self.assertEqual(sum(found), light_count(path, rule, light))
                self.assertEqual((found[0], 0 in found), (1, False))


class ParametersTest(unittest.TestCase):
    def refused(self, function, *args):
        with self.assertRaises(NotUsable) as caught:
            function(*args)
        return (caught.exception.word, caught.exception.at)

    def test_rules_and_lights(self):
        takers = ((may_press, (0,)), (pressed, (1,)), (lets_play, ((),)), (light_comes, ((0,),)), (light_count, ()),
                  (play_of, ((0,),)), (play_levels, ()), (word_of_light, ()))
        for function, more in takers:
            for rule in (None, True, 0, "", "even", "Odd", ("odd",), ["lit"], "lit ", "oddlit"):
                self.assertEqual(self.refused(function, PATH, rule, (0,), *more), ("rule", -1))
                self.assertEqual(self.refused(function, PATH, rule, None, *more), ("rule", -1))
            for light in (None, True, 0, "", [0], (3,), (0, 0), (1, 0), (-1,), (True,), ("0",), ((0,),), (0, False)):
                self.assertEqual(self.refused(function, PATH, "odd", light, *more), ("light", -1))
            for rule, light in (("odd", (0, 2)), ("lit", (0, 1))):
                try:
                    function(PATH, rule, light, *more)
                except NotUsable as error:
                    self.assertEqual(error.word, "lamp")

    def test_lamps_and_other_lights(self):
        for lamp in (3, -1, True, False, None, "0", (0,), [0], 10 ** 40):
            self.assertEqual(self.refused(may_press, PATH, "lit", (0, 1, 2), lamp), ("lamp", -1))
            self.assertEqual(self.refused(pressed, PATH, "lit", (0, 1, 2), lamp), ("lamp", -1))
        for other in (None, True, 0, "", [0], (3,), (0, 0), (1, 0), (-1,), (True,)):
            for rule in RULES:
                self.assertEqual(self.refused(light_comes, PATH, rule, (0,), other), ("other", -1))
                self.assertEqual(self.refused(play_of, PATH, rule, (0,), other), ("other", -1))
            self.assertEqual(self.refused(lit_lot, PATH, (0,), other), ("other", -1))
            self.assertEqual(self.refused(lit_lot, PATH, other, other), ("light", -1))
        for word in ("", "XI", "XIIX", "xII", None, True, 1, ("XII",), "XI "):
            self.assertEqual(self.refused(light_of_word, PATH, word), ("word", -1))


if __name__ == "__main__":
    unittest.main()

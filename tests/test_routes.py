"""[51] Route."""

import unittest

from clashborn.errors import NotUsable, Refused, Shared
from clashborn.fewest import fewest_turns
from clashborn.refusals import lets_refusal
from clashborn.routeclasses import Route
from clashborn.turnchecker import lets_turns
from tests import plain
from tests.plain import BOTH, LINE, SHARED, SIX
from tests.test_turns import cases


class RouteTest(unittest.TestCase):
    def test_methods(self):
        chance = plain.chance_of(512)
        for house, word, turns in cases(512):
            others = sorted(turns)
            shared = plain.sharing(house, plain.met(house, word))
            for other in chance.sample(others, min(4, len(others))):
                if shared is not None:
                    with self.assertRaises(Shared) as caught:
                        Route(house, word, other)
                    self.assertEqual(caught.exception.piece, shared)
                    continue
                route = Route(house, word, other)
                self.assertEqual((route.fewest(), type(route.fewest())), (turns[other], int))
                self.assertEqual((len(route.words()), lets_turns(house, word, route.words())), (turns[other], other))
                self.assertEqual(route.ends_in(), (word, other))
                back = route.back()
                self.assertIs(type(back), Route)
                self.assertEqual((back.ends_in(), back.fewest()), ((other, word), turns[other]))
                self.assertEqual(lets_turns(house, other, back.words()), word)
                self.assertEqual(back.back(), route)
                self.assertIs(back == route, word == other)

    def test_no_turns(self):
        route = Route((2, ()), "XZ", "XZ")
        self.assertEqual((route.fewest(), route.words(), route.ends_in()), (0, (), ("XZ", "XZ")))

    def test_refused_and_shared(self):
        for house, word, other in ((LINE, "XI", "II"), (LINE, "XI", "ZI"), (SIX, "XII", "IIZ"), (SHARED, "ZZII", "IIII")):
            with self.assertRaises(Refused) as caught:
                Route(house, word, other)
            self.assertRaises(Refused, fewest_turns, house, word, other)
            paper = caught.exception.paper
            self.assertEqual(lets_refusal(house, word, other, paper), paper[0])
        for other in ("ZZII", "YYII"):
            with self.assertRaises(Shared) as caught:
                Route(SHARED, "ZZII", other)
            self.assertEqual(caught.exception.piece, 1)

    def test_what_is_not_as_stated(self):
        good = {"house": LINE, "word": "XI", "other": "IX"}
        bad_houses = (None, True, (1,), (2, ("XI", "XI")), [2, ("XI",)], (2, ["XI"]), (2, ("II",)), (True, ()))
        bad_words = (None, True, 0, "", "X", "XII", "xi", ("XI",), ["XI"])
        for name, bads in (("house", bad_houses), ("word", bad_words), ("other", bad_words)):
            for bad in bads:
                for more in ({}, {"other": None}, {"word": 1, "other": 1}):
                    values = {**good, **more, name: bad}
                    wrong = [key for key in good if values[key] is not good[key]]
                    for args, named in ((tuple(values.values()), {}), ((), values)):
                        with self.assertRaises(NotUsable) as caught:
                            Route(*args, **named)
                        self.assertEqual((caught.exception.word, caught.exception.at), (wrong[0], -1))

    def test_equality(self):
        route = Route(LINE, "XI", "IX")
        self.assertEqual(route, Route(other="IX", word="XI", house=(2, ("XI", "ZZ", "IX"))))
        for other in (Route(LINE, "IX", "XI"), Route(LINE, "XI", "XI"), Route(LINE, "YY", "IX"),
                      Route((2, ("IX", "ZZ", "XI")), "XI", "IX"), Route(BOTH, "XI", "XI"), None, 0, True, "",
                      (LINE, "XI", "IX"), ("XI", "IX")):
            self.assertFalse(route == other)
            self.assertTrue(route != other)
            self.assertFalse(other == route)

    def test_examples(self):
        self.assertEqual((Route(LINE, "XI", "IX").fewest(), Route(LINE, "XI", "IX").back().ends_in()), (2, ("IX", "XI")))


if __name__ == "__main__":
    unittest.main()

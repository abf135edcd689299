"""[70] stories, [71] strikes, and the sentences of [72] over several houses."""

import unittest

from clashborn.classings import classes_among
from clashborn.comparing import first_unmade, makes_same
from clashborn.errors import InvalidPaper, Shared
from clashborn.furthers import kind_with
from clashborn.leasthouses import fewest_told, least_house, lets_least
from clashborn.needless import is_needless, stripped
from clashborn.piececounts import made_count
from clashborn.piecekinds import kinds_of
from clashborn.sharings import share_at
from clashborn.stories import first_tipped, pieces_story, story_of
from clashborn.strikes import pillars_of, strike_kinds
from clashborn.tiework import pieces_of
from clashborn.tips import kept_count, tip_count, tip_word_count
from clashborn.withinpapers import lets_within, within_paper
from tests import plain
from tests.plain import FIVE, LINE, MORE, ROW, SIX, TRIO


def kept_to(house, many):
    return (house[0], house[1][:many])


def struck(house, told):
    return (house[0], house[1][:told] + house[1][told + 1:])


def kinds_by_trial(house):
    return tuple(plain.kind(house, lot) for lot in plain.pieces(house))


def houses():
    chance = plain.chance_of(70)
    wide = [plain.random_house(chance, places, many) for places in (3, 8, 60) for many in (12, 25, 40)]
    return wide + [plain.six_house(chance, 20), plain.paired_house(chance, 9, 30), plain.ringed_house(chance, 7, 14)]


class StoriesTest(unittest.TestCase):
    def test_examples(self):
        self.assertEqual(story_of(MORE), ("lone", "paired", "paired", "paired", "paired", "strict", "loose"))
        self.assertEqual(pieces_story((2, ("XI", "IX", "ZZ"))), (1, 2, 1))
        self.assertEqual(first_tipped(MORE), 5)
        self.assertIsNone(first_tipped(FIVE))

    def test_no_told_words(self):
        self.assertEqual((story_of((3, ())), pieces_story((3, ())), first_tipped((3, ()))), ((), (), None))
        self.assertEqual((strike_kinds((3, ())), pillars_of((3, ()))), ((), ()))

    def test_stories_by_trial(self):
        for house in plain.small_houses(71):
            kinds, many = [], []
            for told in range(len(house[1])):
                shorter = kept_to(house, told + 1)
                lots = plain.pieces(shorter)
                kinds.append(plain.kind(shorter, [lot for lot in lots if told in lot][0]))
                many.append(len(lots))
            self.assertEqual(story_of(house), tuple(kinds), house)
            self.assertEqual(pieces_story(house), tuple(many), house)
            tipped = [told for told, kind in enumerate(kinds) if kind in ("strict", "loose")]
            self.assertEqual(first_tipped(house), tipped[0] if tipped else None, house)

    def test_first_tipped_at_a_loose_piece(self):
        # The last word of a ring of seven breaks all pairings and is odd at once.
        found = [house for house in plain.small_houses(9) + houses() if "loose" in story_of(house)]
        jumps = [house for house in found if story_of(house)[first_tipped(house)] == "loose"]
        self.assertTrue(jumps)
        for house in jumps:
            before = kinds_of(kept_to(house, first_tipped(house)))
            self.assertFalse({"strict", "loose"} & set(before))

    def test_strikes_by_trial(self):
        for house in plain.small_houses(72):
            found = tuple(kinds_by_trial(struck(house, told)) for told in range(len(house[1])))
            self.assertEqual(strike_kinds(house), found, house)
            pillars = tuple(told for told, kinds in enumerate(found) if not {"strict", "loose"} & set(kinds))
            wild = {"strict", "loose"} & set(kinds_by_trial(house))
            self.assertEqual(pillars_of(house), pillars if wild else (), house)

    def test_strike_examples(self):
        self.assertEqual(strike_kinds(LINE), (("paired",), ("lone", "lone"), ("paired",)))
        self.assertEqual(pillars_of(MORE), (0, 1, 2, 3, 4, 5))
        self.assertEqual(pillars_of(SIX), (0, 1, 2, 3, 4, 5))
        self.assertEqual(pillars_of(FIVE), ())
        self.assertEqual(strike_kinds((1, ("X",))), ((),))
        self.assertEqual(pillars_of(plain.beside(SIX, SIX)), ())
        self.assertEqual(pillars_of(plain.beside(LINE, SIX)), (3, 4, 5, 6, 7, 8))

    def test_kinds_of_results(self):
        for house in plain.NAMED:
            for found in (story_of(house), pieces_story(house), strike_kinds(house), pillars_of(house)):
                self.assertIs(type(found), tuple)
            for many in pieces_story(house):
                self.assertIs(type(many), int)
            for kinds in strike_kinds(house):
                self.assertIs(type(kinds), tuple)


class ConsequencesTest(unittest.TestCase):
    """[72], sentence by sentence."""

    def test_checkers_accept_what_is_returned(self):
        for house in plain.small_houses(73) + houses():
            self.assertEqual(lets_least(house, least_house(house)), fewest_told(house))
        small = [house for house in plain.small_houses(74) if len(house[1]) <= 15]
        for house, other in zip(small, small[1:] + small[:1]):
            for one, two in ((house, other), (house, house), (stripped(house), house), (house, stripped(house))):
                if one[0] == two[0]:
                    self.assertIs(lets_within(one, two, within_paper(one, two)), first_unmade(one, two) is None)

    def test_papers_are_accepted_for_what_is_so(self):
        # "within" needs a ladder for each word, "not" a refusal: neither is accepted for what is not so.
        ladders = tuple((word,) for word in FIVE[1])
        for paper in (("within", ladders), ("within", within_paper(FIVE, FIVE)[1])):
            with self.assertRaises(InvalidPaper):
                lets_within(FIVE, LINE, paper)
        for paper in (("not", told, (("apart", check),)) for told in range(3) for check in plain.all_words(2)):
            with self.assertRaises(InvalidPaper):
                lets_within(LINE, FIVE, paper)

    def test_houses_that_make_the_same(self):
        for house in plain.small_houses(75):
            if house[0] > 3:
                continue
            words = tuple(plain.all_words(house[0]))
            for other in (least_house(house), stripped(house)):
                self.assertIs(makes_same(house, other), True)
                self.assertEqual(fewest_told(other), fewest_told(house))
                self.assertEqual(classes_among(other, words), classes_among(house, words))

    def test_stripped(self):
        for house in plain.small_houses(76) + houses():
            left = stripped(house)
            self.assertIs(makes_same(house, left), True)
            self.assertFalse(any(is_needless(left, told) for told in range(len(left[1]))))
            self.assertEqual(made_count(left), made_count(house))

    def test_counts_of_tips(self):
        many = 0
        for house in plain.small_houses(77) + houses():
            kinds = kinds_of(house)
            if {"strict", "loose"} & set(kinds):
                continue
            try:
                self.assertEqual(kept_count(house) + tip_count(house), 4 ** house[0])
            except Shared as error:
                self.assertEqual(error.piece, share_at(house, tuple(range(len(kinds)))))
                continue
            if tip_count(house) == 0:
                many += 1
                self.assertEqual([tip_word_count(house, piece) for piece in range(len(kinds))], [0] * len(kinds))
        self.assertGreater(many, 5)

    def test_story_and_further_words(self):
        for house in plain.small_houses(78) + houses():
            story = story_of(house)
            for told, word in enumerate(house[1]):
                self.assertEqual(story[told], kind_with(kept_to(house, told), word))

    def test_strict_and_loose_pieces_stay(self):
        chance = plain.chance_of(79)
        for house in [SIX, MORE] + plain.small_houses(79) + houses():
            if {"strict", "loose"} & set(kinds_of(house)):
                for _ in range(10):
                    word = plain.random_word(chance, house[0])
                    if set(word) != {"I"} and word not in house[1]:
                        self.assertTrue({"strict", "loose"} & set(kinds_of((house[0], house[1] + (word,)))))

    def test_pillars_lie_in_the_one_piece(self):
        for house in plain.small_houses(80) + houses() + [plain.beside(TRIO, MORE), plain.beside(SIX, ROW)]:
            pillars = pillars_of(house)
            if pillars:
                wild = [piece for piece, kind in enumerate(kinds_of(house)) if kind in ("strict", "loose")]
                self.assertEqual(len(wild), 1)
                self.assertLessEqual(set(pillars), set(pieces_of(house)[wild[0]]))


if __name__ == "__main__":
    unittest.main()

"""[42] and [52] consequences, and the guarantees G4 to G6 of [11], over several houses and words."""

import unittest

from clashborn.classings import classes_among, first_of
from clashborn.climbing import ladder_of
from clashborn.coinwork import coins_of
from clashborn.comingpapers import coming_paper, lets_coming
from clashborn.comings import comes_of, lot_from
from clashborn.errors import Refused, Shared
from clashborn.farthest import farthest_turns
from clashborn.fewest import fewest_turns
from clashborn.laddertools import trimmed
from clashborn.letters import added
from clashborn.lettings import shift_of, side_of
from clashborn.making import is_made, lets_unmade, unmade_paper
from clashborn.meetings import meetings_of
from clashborn.pairings import pairing_of
from clashborn.piecekinds import kinds_of
from clashborn.refusals import lets_refusal, refusal_of
from clashborn.sharings import share_at
from clashborn.spans import rest_basis
from clashborn.spreads import made_spread, told_spread
from clashborn.tiework import met_by, pieces_of
from clashborn.toldrows import lets_told_row, told_row
from clashborn.turnchecker import lets_turns
from clashborn.turnpapers import lets_turn_paper, turn_paper
from clashborn.turnwords import turn_words
from clashborn.walking import made_walked, walked
from tests import plain
from tests.plain import LINE, LONG, SIX
from tests.test_turns import far_word


def samples(seed, many=4):
    """Pairs (house, word) of small houses."""
    chance = plain.chance_of(seed)
    for house in plain.small_houses(seed):
        words = plain.all_words(house[0])
        for word in chance.sample(words, min(many, len(words))):
            yield house, word


def some(chance, things, many=6):
    things = sorted(things)
    return chance.sample(things, min(many, len(things)))


class ConsequencesOf42Test(unittest.TestCase):
    def test_meetings_and_coins_stay(self):
        chance = plain.chance_of(420)
        coined = 0
        for house, word in samples(420, 8):
            meetings = meetings_of(house, word)
            for other in some(chance, walked(house, word), 3):
                self.assertEqual(meetings_of(house, other), meetings)
                for piece, meeting in enumerate(meetings):
                    if meeting == "coined":
                        pairs = pairing_of(house, piece)
                        have = [len(coins_of(house, piece, pairs, here)) for here in (word, other)]
                        self.assertEqual(have[0], have[1])
                        coined += 1
        self.assertGreater(coined, 20)

    def test_a_lot_or_a_refusal_and_checkers(self):
        chance = plain.chance_of(421)
        for house, word in samples(421):
            for other in some(chance, plain.all_words(house[0])) + some(chance, walked(house, word), 2):
                lot, refusal = lot_from(house, word, other), refusal_of(house, word, other)
                self.assertIs(lot is None, refusal is not None)
                if refusal is not None:
                    self.assertEqual(lets_refusal(house, word, other, refusal), refusal[0])
                    self.assertIs(lets_coming(house, word, other, refusal), False)
                else:
                    self.assertIs(lets_coming(house, word, other, ("lot", lot)), True)
                self.assertIs(lets_coming(house, word, other, coming_paper(house, word, other)), refusal is None)
                if not is_made(house, other):
                    self.assertEqual(lets_unmade(house, other, unmade_paper(house, other)), len(pieces_of(house)))

    def test_sides_change_by_shifts(self):
        changed = 0
        for house, word in samples(422, 8):
            met = met_by(house, word)
            lot = tuple(sorted(told for piece in met for told in pieces_of(house)[piece]))
            if len(lot) > 9:
                continue
            for relation in plain.relations(house, lot):
                for part in plain.lots_of(lot)[::9]:
                    for piece in met:
                        side = side_of(house, word, part, piece)
                        if side is not None:
                            shift = shift_of(house, word, relation, piece)
                            self.assertEqual(side_of(house, word, plain.merged(part, relation), piece), (side + shift) % 2)
                            changed += shift
        self.assertGreater(changed, 20)

    def test_made_words_come_of_told_words(self):
        for house in plain.small_houses(423):
            made = set()
            for piece, lot in enumerate(pieces_of(house)):
                for told in lot:
                    self.assertEqual(walked(house, house[1][told]), made_walked(house, piece))
                made |= set(made_walked(house, piece))
            for word in plain.all_words(house[0])[::5]:
                comes = any(comes_of(house, told, word) for told in house[1])
                self.assertIs(is_made(house, word), comes)
                self.assertIs(word in made, comes)

    def test_classes_have_one_first_word(self):
        chance = plain.chance_of(424)
        for house, word in samples(424):
            others = some(chance, plain.all_words(house[0]))
            for other in others:
                self.assertIs(comes_of(house, word, other), first_of(house, word) == first_of(house, other))
            firsts = [first_of(house, other) for other in others]
            self.assertEqual(classes_among(house, tuple(others)), tuple(firsts.index(first) for first in firsts))


class ConsequencesOf52Test(unittest.TestCase):
    def test_fewest_turns_as_distances(self):
        chance = plain.chance_of(520)
        for house, word in samples(520):
            if share_at(house, met_by(house, word)) is not None:
                continue
            others = some(chance, walked(house, word), 4)
            for other in others:
                there = fewest_turns(house, word, other)
                self.assertEqual(fewest_turns(house, other, word), there)
                self.assertIs(there == 0, other == word)
                self.assertLessEqual(there, farthest_turns(house, word))
                self.assertGreaterEqual(len(told_row(house, word, other)), there)
                for third in others:
                    by_way = there + fewest_turns(house, other, third)
                    self.assertLessEqual(fewest_turns(house, word, third), by_way)

    def test_large_houses(self):
        chance = plain.chance_of(521)
        for house in (plain.random_house(chance, 60, 40), plain.paired_house(chance, 41, 40), plain.six_house(chance, 40)):
            word = plain.random_word(chance, house[0])
            one, two = far_word(chance, house, word), far_word(chance, house, word)
            there = fewest_turns(house, word, one)
            self.assertEqual(fewest_turns(house, one, word), there)
            self.assertLessEqual(fewest_turns(house, word, two), there + fewest_turns(house, one, two))
            self.assertEqual(lets_turns(house, word, turn_words(house, word, one)), one)

    def test_spreads_and_farthest_turns(self):
        for house, word in samples(522, 8):
            made, told = made_spread(house, word), told_spread(house, word)
            self.assertEqual(sum(made), sum(told))
            self.assertEqual((made[0], told[0]), (1, 1))
            self.assertNotIn(0, made + told)
            clashing = [by for by in house[1] if plain.clash(by, word)]
            self.assertEqual(told[1:2], (len(clashing),)[:len(clashing)])
            clashing = [by for by in plain.made_words(house) if plain.clash(by, word)]
            self.assertEqual(made[1:2], (len(clashing),)[:len(clashing)])
            if share_at(house, met_by(house, word)) is None:
                parts = [farthest_turns(plain.alone(house, piece), word) for piece in met_by(house, word)]
                self.assertEqual(farthest_turns(house, word), len(made) - 1)
                self.assertEqual(farthest_turns(house, word), sum(parts))
            else:
                self.assertRaises(Shared, farthest_turns, house, word)

    def test_farthest_turns_of_one_strict_or_loose_piece(self):
        seen = set()
        for house, word in list(samples(523, 8)) + [(LONG, word) for word in plain.all_words(4)[::3]]:
            met = met_by(house, word)
            if len(met) == 1 and kinds_of(house)[met[0]] in ("strict", "loose"):
                rest = plain.sums(house[0], rest_basis(*plain.alone(house, met[0])))
                far = any(plain.clash(d, word) and comes_of(house, word, added(word, d)) for d in rest)
                self.assertEqual(farthest_turns(house, word), 3 if far else 2)
                seen.add((kinds_of(house)[met[0]], far))
        self.assertEqual(seen, {(kind, far) for kind in ("strict", "loose") for far in (True, False)})

    def test_trimmed_ladders_and_papers(self):
        chance = plain.chance_of(524)
        for house, word in samples(524):
            for made in some(chance, plain.made_words(house), 3):
                ladder = trimmed(house, ladder_of(house, made))
                self.assertEqual(trimmed(house, ladder), ladder)
            if share_at(house, met_by(house, word)) is not None:
                continue
            for other in some(chance, walked(house, word), 3):
                _, ladder, rows = paper = turn_paper(house, word, other)
                self.assertEqual(lets_turns(house, word, tuple(ladder[row] for row in rows)), other)
                self.assertEqual(lets_turns(house, word, turn_words(house, word, other)), other)
                self.assertEqual(lets_turn_paper(house, word, other, paper), len(rows))
                row = told_row(house, word, other)
                self.assertEqual(lets_told_row(house, word, other, row), len(row))


class GuaranteesTest(unittest.TestCase):
    def test_what_comes_by_one_loose_piece(self):
        loose = 0
        for house, word in samples(525, 8):
            met = met_by(house, word)
            if len(met) == 1 and kinds_of(house)[met[0]] == "loose":
                alone = plain.alone(house, met[0])
                there = {plain.plus(word, by) for by in plain.sums(*alone)}
                there = {other for other in there if any(plain.clash(other, told) for told in alone[1])}
                self.assertEqual(set(walked(house, word)), there)
                loose += 1
        self.assertGreater(loose, 5)

    def test_fewest_turns_of_one_swept_piece(self):
        seen = set()
        for house, word in samples(526, 8):
            if meetings_of(house, word).count("unmet") + 1 != len(pieces_of(house)) or "swept" not in meetings_of(house, word):
                continue
            piece = met_by(house, word)[0]
            pairs = pairing_of(house, piece) if kinds_of(house)[piece] == "paired" else ()
            if len({point for pair in pairs for point in pair}) > 5:
                continue
            for other in plain.all_words(house[0])[::2]:
                code = plain.plus(word, other)
                if word != other and comes_of(house, word, other):
                    touches = any(plain.clash(code, told) for told in plain.alone(house, piece)[1])
                    wanted = (1 if touches else 3) if plain.clash(code, word) else 2
                    self.assertEqual(fewest_turns(house, word, other), wanted)
                    seen.add(wanted)
        self.assertEqual(seen, {1, 2, 3})

    def test_nothing_comes_that_is_refused(self):
        for house, word, other in ((LINE, "XI", "II"), (SIX, "XII", "IIZ")):
            self.assertRaises(Refused, fewest_turns, house, word, other)
            self.assertNotIn(other, walked(house, word))


if __name__ == "__main__":
    unittest.main()

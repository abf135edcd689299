"""[43] fewest turns, [44] turn words, [45] their checker, [46] farthest turns."""

import unittest

from clashborn.errors import InvalidPaper, Refused, Shared
from clashborn.farthest import farthest_turns
from clashborn.fewest import fewest_turns
from clashborn.meetings import meeting_of
from clashborn.refusals import lets_refusal
from clashborn.sharings import share_at
from clashborn.tiework import met_by
from clashborn.turnchecker import lets_turns
from clashborn.turnwords import turn_words
from tests import plain
from tests.plain import DUO, FIVE, LINE, LONES, LONG, MORE, SHARED, SIX, TRIO


def far_word(chance, house, word, turns=200):
    """A word that comes of word by so many told words, as far as they clash."""
    here = word
    for _ in range(turns if house[1] else 0):
        by = chance.choice(house[1])
        here = plain.plus(here, by) if plain.clash(here, by) else here
    return here


def cases(seed, many=3):
    """Triples (house, word, turns), turns with the fewest turns for all that comes of word, by plain walking."""
    chance = plain.chance_of(seed)
    for house in plain.small_houses(seed):
        made = plain.made_words(house)
        words = plain.all_words(house[0])
        for word in chance.sample(words, min(many, len(words))):
            yield house, word, plain.steps(house, word, made)


def large_houses(seed):
    """Houses of many words on up to sixty places."""
    chance = plain.chance_of(seed)
    found = [plain.random_house(chance, 60, 40), plain.paired_house(chance, 41, 40), plain.paired_house(chance, 20, 40)]
    found += [plain.ringed_house(chance, 30, 38), plain.six_house(chance, 40), plain.random_house(chance, 20, 40)]
    found += [plain.whole_house(chance, 18, 0), plain.whole_house(chance, 17, 2, 3), plain.whole_house(chance, 5, 20, 9)]
    found.append((60, tuple("I" * k + "X" + "I" * (59 - k) for k in range(40))))
    found.append(plain.beside(plain.random_house(chance, 20, 20), plain.paired_house(chance, 11, 20)))
    return found


class FewestTest(unittest.TestCase):
    def test_against_plain_walking(self):
        chance = plain.chance_of(430)
        seen = set()
        for house, word, turns in cases(430):
            shared = plain.sharing(house, plain.met(house, word))
            others = sorted(turns)
            for other in chance.sample(others, min(12, len(others))) + [word]:
                if shared is None:
                    found = fewest_turns(house, word, other)
                    self.assertEqual(found, turns[other], (house, word, other))
                    self.assertIs(type(found), int)
                    seen.add(found)
                else:
                    for function in (fewest_turns, turn_words):
                        with self.assertRaises(Shared) as caught:
                            function(house, word, other)
                        self.assertEqual(caught.exception.piece, shared)
                        seen.add("shared")
        self.assertEqual(seen, {0, 1, 2, 3, 4, "shared"})

    def test_refused(self):
        chance = plain.chance_of(431)
        seen = set()
        for house, word, turns in cases(431):
            words = plain.all_words(house[0])
            for other in chance.sample(words, min(8, len(words))):
                if other not in turns:
                    for function in (fewest_turns, turn_words):
                        with self.assertRaises(Refused) as caught:
                            function(house, word, other)
                        paper = caught.exception.paper
                        self.assertEqual(lets_refusal(house, word, other, paper), paper[0])
                        seen.add(paper[0])
        self.assertEqual(seen, {"still", "apart", "coins", "signs"})

    def test_refused_comes_before_shared(self):
        self.assertRaises(Refused, fewest_turns, SHARED, "ZZII", "IIII")
        self.assertRaises(Refused, turn_words, SHARED, "ZZII", "IIII")
        for other in ("ZZII", "YZII"):
            with self.assertRaises(Shared) as caught:
                fewest_turns(SHARED, "ZZII", other)
            self.assertEqual(caught.exception.piece, 1)
        # Of a word that meets one of the two pieces only, nothing is shared.
        self.assertEqual(fewest_turns(SHARED, "ZIII", "YIII"), 1)
        self.assertEqual(fewest_turns(LONES, "ZZI", "YYI"), 2)
        with self.assertRaises(Shared) as caught:
            fewest_turns((3, ("XII", "IXI", "IIX", "XXX")), "ZZZ", "ZZZ")
        self.assertEqual(caught.exception.piece, 3)

    def test_words_that_meet_nothing(self):
        self.assertEqual(fewest_turns((2, ()), "XZ", "XZ"), 0)
        self.assertRaises(Refused, fewest_turns, (2, ()), "XZ", "XX")
        self.assertEqual(fewest_turns(other="XX", word="XX", house=LINE), 0)
        self.assertEqual(turn_words(LINE, "II", "II"), ())

    def test_lone_pieces_add_up(self):
        many = (60, tuple("I" * k + "X" + "I" * (59 - k) for k in range(40)))
        self.assertEqual(fewest_turns(many, "Z" * 60, "Y" * 30 + "Z" * 30), 30)
        self.assertEqual(farthest_turns(many, "Z" * 60), 40)
        self.assertEqual(farthest_turns(many, "Z" * 7 + "X" * 53), 7)

    def test_jumps_on_many_points(self):
        # A row of 40 words on 41 points, and words with a coin on the last, and on each of the last three.
        house = (30, tuple(("I" * (k // 2) + ("X" if k % 2 == 0 else "ZZ") + "I" * 30)[:30] for k in range(40)))
        one = "I" * 20 + "X" + "I" * 9
        self.assertEqual([k for k in range(40) if plain.clash(one, house[1][k])], [39])
        self.assertEqual(farthest_turns(house, one), 1)
        self.assertEqual(fewest_turns(house, one, plain.plus(one, plain.total(30, house[1]))), 1)
        three = "I" * 19 + "XX" + "I" * 9
        self.assertEqual([k for k in range(40) if plain.clash(three, house[1][k])], [37])
        self.assertEqual(farthest_turns(house, three), 3)
        jumps = plain.total(30, house[1][30:38] + house[1][20:39])
        self.assertEqual(fewest_turns(house, three, plain.plus(three, jumps)), 2)
        self.assertRaises(Refused, fewest_turns, house, three, plain.plus(three, house[1][30]))

    def test_examples(self):
        found = fewest_turns(LINE, "XI", "IX"), fewest_turns(LINE, "XI", "YY"), fewest_turns((1, ("X",)), "Z", "Y")
        self.assertEqual(found, (2, 1, 1))
        self.assertEqual(fewest_turns(LONG, "XIIX", "XIIY"), 3)


class TurnWordsTest(unittest.TestCase):
    def hold(self, house, word, other, found, made=None):
        self.assertIs(type(found), tuple)
        here = word
        for turn in found:
            if made is not None:
                self.assertIn(turn, made)
            self.assertTrue(plain.clash(turn, here))
            here = plain.plus(turn, here)
        self.assertEqual(here, other)
        self.assertEqual(lets_turns(house, word, found), other)
        self.assertEqual(len(found), fewest_turns(house, word, other))

    def test_they_lead_there(self):
        chance = plain.chance_of(440)
        for house, word, turns in cases(440):
            if plain.sharing(house, plain.met(house, word)) is None:
                made = plain.made_words(house)
                others = sorted(turns)
                for other in chance.sample(others, min(12, len(others))) + [word]:
                    self.hold(house, word, other, turn_words(house, word, other), made)
                self.assertEqual(turn_words(house, word, word), ())

    def test_strict_and_loose_pieces_with_a_rest(self):
        chance = plain.chance_of(442)
        found = [LONG, (4, tuple(word + "I" for word in MORE[1]) + ("XIIX",))]
        found += [(4, tuple(word + chance.choice("IX") for word in SIX[1])) for _ in range(3)]
        found += [(5, tuple(word + "II" for word in SIX[1]) + ("XIIXI", "ZIIXX")), (4, LONG[1][1:] + ("XXXX", "YIZX"))]
        seen = set()
        for house in found:
            made = plain.made_words(house)
            for word in chance.sample(plain.all_words(house[0]), 12):
                for other, turns in plain.steps(house, word, made).items():
                    if turns > 1:
                        self.hold(house, word, other, turn_words(house, word, other), made)
                        seen.add(turns)
        self.assertEqual(seen, {2, 3})

    def test_pieces_behind_others(self):
        # Three turns at the second piece, and a ring at it, behind a piece whose words the word meets, too.
        house = plain.beside((1, ("X",)), LONG)
        self.assertEqual(fewest_turns(house, "ZXIIX", "YXIIY"), 4)
        self.hold(house, "ZXIIX", "YXIIY", turn_words(house, "ZXIIX", "YXIIY"))
        house = plain.beside((1, ("X",)), (4, ("XIII", "ZZII", "IXII", "IZZI", "IIXI", "XIIX")))
        self.assertEqual(fewest_turns(house, "ZZIII", "YZIIX"), 3)
        self.hold(house, "ZZIII", "YZIIX", turn_words(house, "ZZIII", "YZIIX"))

    def test_large_houses(self):
        chance = plain.chance_of(441)
        for house in large_houses(441):
            for _ in range(4):
                word = plain.random_word(chance, house[0])
                other = far_word(chance, house, word)
                if share_at(house, met_by(house, word)) is None:
                    found = turn_words(house, word, other)
                    self.hold(house, word, other, found)
                    self.assertLessEqual(len(found), farthest_turns(house, word))

    def test_examples(self):
        self.assertEqual(turn_words(LINE, "XI", "YY"), ("ZY",))
        self.assertEqual(len(turn_words(other="XIIY", word="XIIX", house=LONG)), 3)


class CheckerTest(unittest.TestCase):
    def refused(self, wanted, house, word, thing):
        with self.assertRaises(InvalidPaper) as caught:
            lets_turns(house, word, thing)
        self.assertEqual((caught.exception.word, caught.exception.at), wanted)

    def test_accepted(self):
        self.assertEqual(lets_turns(LINE, "XI", ()), "XI")
        self.assertEqual(lets_turns(thing=(), word="II", house=(2, ())), "II")
        self.assertEqual(lets_turns(LINE, "XI", ("ZZ", "ZZ", "ZZ", "YY", "YY")), "YZ")
        # Pieces that share do not matter here.
        self.assertEqual(lets_turns(SHARED, "ZZII", ("XIII", "IXII")), "YYII")
        self.assertEqual(lets_turns(TRIO, "X", ("Y", "Y") * 3000), "X")

    def test_entries(self):
        for thing in (None, True, 0, "", "ZZ", [], ["ZZ"], {}):
            self.refused(("shape", -1), LINE, "XI", thing)
        for turn in (None, True, 0, "", "Z", "ZZI", "zz", ("ZZ",), ["ZZ"], ()):
            self.refused(("word", 0), LINE, "XI", (turn,))
            self.refused(("word", 1), LINE, "XI", ("ZZ", turn, turn))
        for turn in ("II", "XX", "ZI", "IZ", "YI"):
            self.refused(("made", 0), LINE, "XI", (turn,))
            self.refused(("made", 1), LINE, "XI", ("ZZ", turn))
        for turn in ("XI", "IX"):
            self.refused(("idle", 0), LINE, "XI", (turn,))
        self.refused(("idle", 1), LINE, "XI", ("ZZ", "YZ"))
        self.refused(("idle", 2), LINE, "XI", ("ZZ", "YY", "IX"))
        # One element behind the other: an idle one stands before a later one that is no word.
        self.refused(("idle", 0), LINE, "XI", ("XI", None))
        self.refused(("made", 0), LINE, "XI", ("II", "XI"))
        self.refused(("made", 0), (2, ()), "XI", ("ZZ",))

    def test_all_made_words_are_let(self):
        for house in (LINE, TRIO, FIVE, DUO, SIX, LONES):
            made = plain.made_words(house)
            for word in plain.all_words(house[0])[::3]:
                for turn in plain.all_words(house[0]):
                    if turn not in made:
                        self.refused(("made", 0), house, word, (turn,))
                    elif not plain.clash(word, turn):
                        self.refused(("idle", 0), house, word, (turn,))
                    else:
                        self.assertEqual(lets_turns(house, word, (turn,)), plain.plus(word, turn))

    def test_example(self):
        self.assertEqual(lets_turns(LINE, "XI", ("ZZ", "YY")), "IX")


class FarthestTest(unittest.TestCase):
    def test_against_plain_walking(self):
        seen = set()
        for house, word, turns in cases(460, 8):
            shared = plain.sharing(house, plain.met(house, word))
            if shared is None:
                found = farthest_turns(house, word)
                self.assertEqual(found, max(turns.values()), (house, word))
                self.assertIs(type(found), int)
                seen.add(found)
            else:
                with self.assertRaises(Shared) as caught:
                    farthest_turns(house, word)
                self.assertEqual(caught.exception.piece, shared)
                seen.add("shared")
        self.assertEqual(seen, {0, 1, 2, 3, 4, "shared"})

    def test_coins_rings_and_whole_relations(self):
        chance = plain.chance_of(461)
        for half in (2, 3, 4):
            for more, tail in ((0, 0), (1, 0), (1, 1), (2, 2)):
                house = plain.whole_house(chance, half, more, tail)
                made = plain.made_words(house)
                for _ in range(6):
                    word = plain.random_word(chance, house[0])
                    self.assertEqual(farthest_turns(house, word), max(plain.steps(house, word, made).values()))

    def test_one_coin_and_a_ring(self):
        house = (4, ("XIII", "ZZII", "IXII", "IZZI", "IIXI", "XIIX"))
        self.assertEqual(farthest_turns(house, "ZIII"), 2)
        self.assertEqual(fewest_turns(house, "ZIII", "ZIIX"), 2)
        self.assertEqual(farthest_turns((4, house[1][:5]), "ZIII"), 1)
        self.assertEqual(max(plain.steps(house, "ZIII", plain.made_words(house)).values()), 2)

    def test_whole_relations_and_rings(self):
        # A word with Z at the last place clashes with the ring there, so that it has no coins.
        chance = plain.chance_of(462)
        for half, swept in ((2, 3), (3, 2), (4, 5), (5, 3)):
            words = plain.whole_house(chance, half)[1]
            twin = plain.plus(words[0], words[1]) if plain.clash(words[0], words[1]) else words[0]
            house = (half + 1, tuple(word + "I" for word in words) + (twin + "X",))
            made = plain.made_words(house)
            found = {}
            for head in plain.all_words(half)[::4 ** half // 16]:
                for tail in "IZ":
                    found.setdefault(meeting_of(house, head + tail, 0), set()).add(farthest_turns(house, head + tail))
            self.assertEqual(found["swept"], {swept})
            for word in ("X" * half + "Z", "XZ" + "I" * (half - 2) + "I"):
                self.assertEqual(farthest_turns(house, word), max(plain.steps(house, word, made).values()))

    def test_edges(self):
        self.assertEqual(farthest_turns((2, ()), "XZ"), 0)
        self.assertEqual(farthest_turns(word="II", house=LINE), 0)
        self.assertEqual(farthest_turns((1, ("X",)), "Z"), 1)
        self.assertEqual(farthest_turns(MORE, "XII"), 2)
        for word in ("ZZZ", "YYZ"):
            with self.assertRaises(Shared) as caught:
                farthest_turns((3, ("XII", "IXI", "XXI", "IIX", "XXX")), word)
            self.assertEqual(caught.exception.piece, 4)
        self.assertEqual(farthest_turns((3, ("XII", "IXI", "XXI", "IIX", "XXX")), "ZIZ"), 3)

    def test_examples(self):
        self.assertEqual((farthest_turns(LINE, "XI"), farthest_turns(SIX, "XII"), farthest_turns(LONG, "XIIX")), (2, 2, 3))


if __name__ == "__main__":
    unittest.main()

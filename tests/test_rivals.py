"""[76] rivals and checks that confuse them, [77] fixed lists, [79] plans, [80] plans gone through, [81] Watch, [82]."""

import itertools
import unittest

from clashborn.comings import comes_of
from clashborn.confusions import are_rivals, confused_by, confused_pair
from clashborn.errors import InvalidPaper, NotUsable
from clashborn.fixedlists import fixed_checks, fixed_count, lets_fixed
from clashborn.planning import lets_plan, plan_of
from clashborn.planwalks import place_by, plan_checks, told_by
from clashborn.readings import read_by
from clashborn.spans import apart_basis, rank_of
from clashborn.watchclasses import Watch
from tests import plain
from tests.plain import BOTH, DUO, FIVE, LINE, MORE, ROW, SIX, TRIO, WHOLE

PLAN = (("XI",), (("ZI", 1), ("IZ", 0)))


def rival_houses():
    """Houses on at most four places, most of them with rivals: small, strict, ringed, with rests of both signs."""
    found = [LINE, TRIO, FIVE, SIX, MORE, ROW, BOTH, DUO, WHOLE, (2, ("XI", "ZI", "YZ")), (3, ("XII", "ZIX", "YXI"))]
    found += [plain.beside(LINE, (1, ("Z",))), plain.beside(LINE, TRIO), (4, ("XIII", "ZIII", "XXII", "IZII"))]
    found += [(4, tuple(word + "I" for word in SIX[1])), (4, tuple(word + "I" for word in SIX[1]) + ("XIIX",))]
    found += [(4, tuple(word + "I" for word in SIX[1]) + ("IIZX",)), (4, tuple(word + "I" for word in ROW[1]) + ("XIIX",))]
    found += [(3, ("XII", "ZII", "XIX")), (3, ("XII", "ZZI", "IXI", "IXX", "YIX")), (4, ("XIII", "ZIII", "YIIX", "XIXI"))]
    # Two like rows of five words, marked unlike: a large piece with rings that words can clash with.
    row = ("XIII", "ZIII", "XXII", "IZII", "IXXI")
    found += [(4, row + ("ZIIX",)), (4, row + ("IZIX", "XIIX"))]
    # On three places, a row of four words with a mark.
    found += [(3, ("XII", "ZII", "XXI", "IZI", "XIX")), (3, ("XII", "ZII", "XXI", "IZX"))]
    chance = plain.chance_of(76)
    return found + [plain.random_house(chance, 3, many) for many in (2, 3, 4, 5, 6, 7)]


def classes_of(house):
    """For each word the sorted tuple of all that comes of it, by plain walking."""
    found = {}
    for word in plain.all_words(house[0]):
        if word not in found:
            came = tuple(sorted(plain.walked(house, word)))
            for other in came:
                found[other] = came
    return found


def swept_pieces(house):
    """For each word the piece that it meets alone and sweeps, of two words at least and without an odd relation."""
    lots = plain.pieces(house)
    even = [len(lot) > 1 and not any(plain.odd(house, part) for part in plain.relations(house, lot)) for lot in lots]
    found = {}
    for word in plain.all_words(house[0]):
        met = plain.met(house, word)
        if len(met) == 1 and even[met[0]] and plain.meeting(house, word, lots[met[0]]) == "swept":
            found[word] = met[0]
    return found


class Ground:
    """A house with its classes and rivals, by plain walking."""

    def __init__(self, house):
        self.house = house
        self.places = house[0]
        self.classes = classes_of(house)
        self.swept = swept_pieces(house)
        self.lots = plain.pieces(house)
        self.sums = [plain.sums(house[0], [house[1][told] for told in lot]) for lot in self.lots]

    def rivals(self, word, other):
        return (word in self.swept and self.swept.get(other) == self.swept[word]
                and plain.plus(word, other) in self.sums[self.swept[word]] and other not in self.classes[word])

    def all_rivals(self):
        """Pairs of rivals, one for each two classes, and as many the other way round."""
        firsts = [word for word in self.swept if self.classes[word][0] == word]
        return [(word, other) for word in firsts for other in self.swept
                if self.rivals(word, other) and not any(self.rivals(word, early) and early in self.classes[other]
                                                        for early in self.swept if early < other)]

    def rank(self, word):
        return rank_of(self.places, tuple(self.house[1][told] for told in self.lots[self.swept[word]]))

    def reads(self, word, checks):
        return {read_by(one, checks) for one in self.classes[word]}

    def confused(self, word, other, checks):
        return bool(self.reads(word, checks) & self.reads(other, checks))

    def wrong_at(self, word, other, plan):
        """The first place at which the plan tells something wrong, or None."""
        wrong = [place_by(plan, one) for one in self.classes[word] if told_by(plan, one) != "word"]
        wrong += [place_by(plan, two) for two in self.classes[other] if told_by(plan, two) != "other"]
        return min(wrong) if wrong else None


GROUNDS = {}


def grounds():
    """The grounds of all rival_houses, walked once."""
    for house in rival_houses():
        if house not in GROUNDS:
            GROUNDS[house] = Ground(house)
    return list(GROUNDS.values())


def rival_cases():
    """(ground, word, other) for up to a dozen pairs of rivals of each house."""
    chance = plain.chance_of(77)
    found = []
    for ground in grounds():
        pairs = ground.all_rivals()
        found += [(ground, word, other) for word, other in chance.sample(pairs, min(len(pairs), 12))]
    return found


class RivalsTest(unittest.TestCase):
    def test_examples(self):
        self.assertEqual((are_rivals(LINE, "ZI", "IZ"), are_rivals(LINE, "ZI", "XZ"), are_rivals(SIX, "XII", "IIZ")),
                         (True, False, True))

    def test_by_definition(self):
        chance = plain.chance_of(78)
        seen = []
        for ground in grounds():
            words = plain.all_words(ground.places)
            pairs = list(itertools.product(words, repeat=2))
            pairs = pairs if len(pairs) <= 256 else chance.sample(pairs, 150)
            pairs += [pair for pair in ground.all_rivals()[:20]]
            for word, other in pairs:
                found = are_rivals(ground.house, word, other)
                self.assertIs(found, ground.rivals(word, other), (ground.house, word, other))
                self.assertIs(are_rivals(ground.house, other, word), found)
                seen.append(found)
        self.assertGreater(seen.count(True), 200)

    def test_near_misses(self):
        # No rival of itself; of a lone piece; by coins; of two pieces; with an odd relation; with a sum from outside.
        self.assertIs(are_rivals(LINE, "ZI", "ZI"), False)
        self.assertIs(are_rivals((1, ("X",)), "Z", "Y"), False)
        self.assertIs(are_rivals(ROW, "IZZ", "IIZ"), False)
        self.assertIs(are_rivals(plain.beside(LINE, LINE), "ZIZI", "IZZI"), False)
        self.assertIs(are_rivals(MORE, "XII", "II" + "Z"), False)
        self.assertIs(are_rivals(plain.beside(LINE, (1, ())), "ZII", "IZX"), False)
        self.assertIs(are_rivals((2, ()), "ZI", "IZ"), False)

    def test_of_three_words_some_two_are_no_rivals(self):
        for ground in grounds():
            firsts = sorted({word for pair in ground.all_rivals() for word in pair})[:12]
            for one, two, three in itertools.combinations(firsts, 3):
                self.assertFalse(are_rivals(ground.house, one, two) and are_rivals(ground.house, two, three)
                                 and are_rivals(ground.house, one, three))

    def test_any_words_of_both_classes(self):
        # Of words that are no rivals, too.
        chance = plain.chance_of(75)
        for ground in grounds():
            words = plain.all_words(ground.places)
            for word, other in [(chance.choice(words), chance.choice(words)) for _ in range(15)]:
                one, two = chance.choice(ground.classes[word]), chance.choice(ground.classes[other])
                self.assertIs(are_rivals(ground.house, one, two), are_rivals(ground.house, word, other))

    def test_cases_of_all_sorts(self):
        ranks = {ground.rank(word) for ground, word, _ in rival_cases()}
        self.assertEqual(ranks, {2, 4, 6})
        more = {fixed_count(ground.house, word, other) - ground.rank(word) for ground, word, other in rival_cases()}
        self.assertEqual(more, {0, 1})


class ConfusedTest(unittest.TestCase):
    def test_examples(self):
        self.assertIs(confused_by(LINE, "ZI", "IZ", ("XI", "ZI")), True)
        self.assertIs(confused_by(LINE, "ZI", "IZ", ("XI", "ZI", "IZ")), False)
        self.assertIsNone(confused_pair(LINE, "ZI", "IZ", ("XI", "ZI", "IZ")))

    def test_by_walking(self):
        chance = plain.chance_of(79)
        seen = []
        for ground, word, other in rival_cases():
            house = ground.house
            checks = fixed_checks(house, word, other)
            lists = [(), checks, checks[1:], checks[:-1], checks[::-1] + ("I" * house[0],)]
            lists += [tuple(plain.random_word(chance, house[0]) for _ in range(chance.randrange(9))) for _ in range(6)]
            for some in lists:
                confused = ground.confused(word, other, some)
                self.assertIs(confused_by(house, word, other, some), confused, (house, word, other, some))
                pair = confused_pair(house, word, other, some)
                if confused:
                    self.assertIs(type(pair), tuple)
                    one, two = pair
                    self.assertIn(one, ground.classes[word])
                    self.assertIn(two, ground.classes[other])
                    self.assertEqual(read_by(one, some), read_by(two, some))
                else:
                    self.assertIsNone(pair)
                seen.append(confused)
        self.assertGreater(seen.count(True), 100)
        self.assertGreater(seen.count(False), 100)

    def test_one_sum_unseen(self):
        # Checks that see all sums but one, this being any sum of the piece: also such as either rival is like.
        seen = []
        for ground, word, other in rival_cases()[::3] + [(ground, word, other) for ground, word, other in rival_cases()
                                                         if ground.house == SIX]:
            house = ground.house
            for unseen in sorted(ground.sums[ground.swept[word]]):
                checks = apart_basis(house[0], (unseen,))
                confused = ground.confused(word, other, checks)
                pair = confused_pair(house, word, other, checks)
                self.assertIs(pair is not None, confused, (house, word, other, unseen))
                if confused:
                    self.assertEqual(plain.plus(*pair), unseen)
                    self.assertTrue(pair[0] in ground.classes[word] and pair[1] in ground.classes[other])
                seen.append((confused, pair is not None and unseen in (word, other)))
        self.assertEqual(set(seen), {(True, True), (True, False), (False, False)})

    def test_further_checks_beside_them(self):
        chance = plain.chance_of(80)
        for ground, word, other in rival_cases():
            checks = fixed_checks(ground.house, word, other)
            more = tuple(plain.random_word(chance, ground.places) for _ in range(3))
            self.assertIs(confused_by(ground.house, word, other, more[:1] + checks + more[1:]), False)

    def test_any_words_of_both_classes(self):
        chance = plain.chance_of(81)
        for ground, word, other in rival_cases():
            one, two = chance.choice(ground.classes[word]), chance.choice(ground.classes[other])
            house = ground.house
            self.assertIs(are_rivals(house, one, two), True)
            self.assertEqual(fixed_count(house, one, two), fixed_count(house, word, other))
            self.assertEqual(fixed_count(house, other, word), fixed_count(house, word, other))
            for many in (1, 2, 5):
                checks = tuple(plain.random_word(chance, house[0]) for _ in range(many))
                self.assertIs(confused_by(house, one, two, checks), confused_by(house, word, other, checks))
            plan = plan_of(house, word, other)
            self.assertEqual(lets_plan(house, one, two, plan), lets_plan(house, word, other, plan))


class FixedTest(unittest.TestCase):
    def refused(self, *args):
        with self.assertRaises(InvalidPaper) as caught:
            lets_fixed(*args)
        return (caught.exception.word, caught.exception.at)

    def test_examples(self):
        self.assertEqual((fixed_count(LINE, "ZI", "IZ"), fixed_count(SIX, "XII", "IIZ")), (3, 6))
        self.assertEqual(lets_fixed(LINE, "ZI", "IZ", ("XI", "ZI", "IZ", "II")), 4)
        self.assertEqual(self.refused(LINE, "ZI", "IZ", ("XI", "ZI", "XI")), ("confused", -1))

    def test_lists(self):
        for ground, word, other in rival_cases():
            house = ground.house
            checks = fixed_checks(house, word, other)
            self.assertTrue(all(len(check) == house[0] and set(check) <= set("IXYZ") for check in checks))
            self.assertIs(type(checks), tuple)
            self.assertIs(type(fixed_count(house, word, other)), int)
            self.assertEqual(len(checks), fixed_count(house, word, other))
            self.assertIs(ground.confused(word, other, checks), False)
            self.assertIn(len(checks) - ground.rank(word), (0, 1))
            self.assertEqual(lets_fixed(house, word, other, checks), len(checks))
            self.assertEqual(lets_fixed(house, word, other, checks + checks), 2 * len(checks))
            # With one check fewer of such a list, some are confused.
            for k in range(len(checks)):
                self.assertEqual(self.refused(house, word, other, checks[:k] + checks[k + 1:]), ("confused", -1))

    def test_no_shorter_list(self):
        # By trial of all lists of words that are not blank, so short that these are few.
        many = 0
        for ground, word, other in rival_cases():
            shorter = fixed_count(ground.house, word, other) - 1
            if ground.places ** shorter <= 9 or (ground.places == 2 and shorter <= 3):
                many += 1
                for checks in itertools.combinations(plain.all_words(ground.places)[1:], shorter):
                    self.assertTrue(ground.confused(word, other, checks), (ground.house, word, other, checks))
        self.assertGreater(many, 10)

    def test_no_six_checks_of_seven(self):
        chance = plain.chance_of(82)
        for ground, word, other in rival_cases():
            shorter = fixed_count(ground.house, word, other) - 1
            for _ in range(10):
                checks = tuple(plain.random_word(chance, ground.places) for _ in range(shorter))
                self.assertIs(ground.confused(word, other, checks), True)
                self.assertIs(confused_by(ground.house, word, other, checks), True)

    def test_entries_in_their_order(self):
        for thing in (None, True, 0, "", "XI", ["XI", "ZI", "IZ"], 3):
            self.assertEqual(self.refused(LINE, "ZI", "IZ", thing), ("shape", -1))
        for k in range(3):
            for bad in ("X", "XII", "", "xI", None, True, 0, ("XI",), ["XI"]):
                thing = ["XI", "XI", "XI"]
                thing[k] = bad
                self.assertEqual(self.refused(LINE, "ZI", "IZ", tuple(thing)), ("check", k))
        self.assertEqual(self.refused(LINE, "ZI", "IZ", ("X", None)), ("check", 0))
        self.assertEqual(self.refused(LINE, "ZI", "IZ", ()), ("confused", -1))
        self.assertEqual(lets_fixed(LINE, "ZI", "IZ", ("XI", "ZI", "IZ") * 100), 300)


class PlanTest(unittest.TestCase):
    def refused(self, *args):
        with self.assertRaises(InvalidPaper) as caught:
            lets_plan(*args)
        return (caught.exception.word, caught.exception.at)

    def test_examples(self):
        self.assertEqual(lets_plan(LINE, "ZI", "IZ", PLAN), 2)
        self.assertEqual(self.refused(LINE, "ZI", "IZ", (("XI",), (("ZI", 1), ("IZ", 1)))), ("wrong", 1))
        self.assertEqual((place_by(PLAN, "XZ"), place_by(PLAN, "YI")), (0, 1))
        self.assertEqual((told_by(PLAN, "XZ"), told_by(PLAN, "IZ")), ("word", "other"))
        self.assertEqual(plan_checks(PLAN, "YI"), ("XI", "IZ"))

    def test_plans_part(self):
        for ground, word, other in rival_cases():
            house = ground.house
            plan = plan_of(house, word, other)
            half = ground.rank(word) // 2
            self.assertEqual((type(plan), type(plan[0]), type(plan[1])), (tuple, tuple, tuple))
            self.assertEqual((len(plan[0]), len(plan[1])), (half, 2 ** half))
            for check, reading in plan[1]:
                self.assertIs(type(reading), int)
                self.assertIn(reading, (0, 1))
            self.assertIsNone(ground.wrong_at(word, other, plan), (house, word, other))
            self.assertEqual(lets_plan(house, word, other, plan), half + 1)
            # With 1 for 0 and 0 for 1 it parts the other way round.
            flipped = (plan[0], tuple((check, 1 - reading) for check, reading in plan[1]))
            self.assertEqual(lets_plan(house, other, word, flipped), half + 1)

    def test_wrong_plans_by_walking(self):
        chance = plain.chance_of(83)
        seen = []
        for ground, word, other in rival_cases():
            house = ground.house
            good = plan_of(house, word, other)
            for _ in range(6):
                first, last = list(good[0]), list(good[1])
                for _ in range(chance.randrange(1, 3)):
                    k = chance.randrange(len(last))
                    check, reading = last[k]
                    last[k] = chance.choice([(check, 1 - reading), (plain.random_word(chance, house[0]), reading),
                                             ("I" * house[0], chance.randrange(2)), last[0]])
                if chance.random() < 0.3:
                    first[chance.randrange(len(first))] = chance.choice(plain.all_words(house[0]))
                plan = (tuple(first), tuple(last))
                at = ground.wrong_at(word, other, plan)
                if at is None:
                    self.assertEqual(lets_plan(house, word, other, plan), len(first) + 1)
                else:
                    self.assertEqual(self.refused(house, word, other, plan), ("wrong", at), (house, word, other, plan))
                seen.append(at is None)
        self.assertGreater(seen.count(True), 10)
        self.assertGreater(seen.count(False), 100)

    def test_blank_first_checks(self):
        # A place that no word has is right with any pair.
        for ground, word, other in rival_cases():
            if ground.rank(word) == 2:
                plans = [(("I" * ground.places,), pairs) for pairs in itertools.product(
                    [(check, reading) for check in plain.all_words(ground.places)[::5] for reading in (0, 1)], repeat=2)]
                for plan in plans[::17]:
                    at = ground.wrong_at(word, other, plan)
                    found = None if at is None else ("wrong", at)
                    self.assertEqual(found and self.refused(ground.house, word, other, plan), found)

    def test_told_as_judged(self):
        for ground, word, other in rival_cases():
            plan = plan_of(ground.house, word, other)
            watch = Watch(ground.house, word, other)
            for one in ground.classes[word][::5] + ground.classes[other][::5]:
                self.assertEqual(told_by(plan, one), watch.judged(one))
                self.assertEqual(told_by(watch.plan(), one), watch.judged(one))

    def test_entries_in_their_order(self):
        args = (LINE, "ZI", "IZ")
        pairs = PLAN[1]
        for thing in (None, True, 0, "", (), PLAN[:1], PLAN + ((),), list(PLAN), (["XI"], pairs), (("XI",), list(pairs)),
                      (None, pairs), ("XI", pairs), (("XI",), "")):
            self.assertEqual(self.refused(*args, thing), ("shape", -1), thing)
        for first in ((), ("XI", "XI"), ("X",), ("XII",), (None,), (True,), (("XI",),), ("xI",)):
            # Ahead of what is told of the last ones.
            self.assertEqual(self.refused(*args, (first, ())), ("first", -1), first)
            self.assertEqual(self.refused(*args, (first, pairs)), ("first", -1), first)
        for last in ((), pairs[:1], pairs + pairs[:1], (None,), (None,) * 3):
            self.assertEqual(self.refused(*args, (("XI",), last)), ("last", -1), last)
        for bad in (None, (), ("ZI",), ["ZI", 1], ("ZI", 2), ("ZI", -1), ("ZI", True), ("ZI", False), ("ZI", "1"), ("Z", 1),
                    (1, "ZI"), ("ZI", 1, 0), (None, 1), ("ZI", None), "ZI", ("ZII", 0)):
            self.assertEqual(self.refused(*args, (("XI",), (bad, bad))), ("pair", 0), bad)
            self.assertEqual(self.refused(*args, (("XI",), (pairs[0], bad))), ("pair", 1), bad)
            # All checks of one pair come before those of the next one.
            self.assertEqual(self.refused(*args, (("XI",), (("ZI", 0), bad))), ("wrong", 0), bad)

    def test_walks_of_plans(self):
        chance = plain.chance_of(84)
        for half in range(7):
            places = chance.randrange(1, 9)
            first = tuple(plain.random_word(chance, places) for _ in range(half))
            last = tuple((plain.random_word(chance, places), chance.randrange(2)) for _ in range(2 ** half))
            for _ in range(20):
                word = plain.random_word(chance, places)
                place = int("0" + "".join(str(reading) for reading in read_by(word, first)), 2)
                self.assertEqual(place_by((first, last), word), place)
                self.assertIs(type(place_by((first, last), word)), int)
                check, reading = last[place]
                told = "word" if plain.clash(check, word) == bool(reading) else "other"
                self.assertEqual(told_by((first, last), word), told)
                self.assertEqual(plan_checks((first, last), word), first + (check,))

    def test_walks_refuse_words(self):
        for function in (place_by, told_by, plan_checks):
            for plan, places in ((PLAN, 2), (((), (("XYZ", 0),)), 3)):
                for word in ("X" * (places + 1), "X" * (places - 1), "", None, True, 1, ("X",) * places, "x" * places):
                    with self.assertRaises(NotUsable) as caught:
                        function(plan, word)
                    self.assertEqual((caught.exception.word, caught.exception.at), ("word", -1))
                function(plan, "Y" * places)


class WatchTest(unittest.TestCase):
    def test_examples(self):
        watch = Watch(LINE, "ZI", "IZ")
        self.assertEqual((watch.least(), watch.judged("XY"), watch.judged("YX"), watch == Watch(LINE, "IZ", "ZI")),
                         (3, "word", "other", False))

    def test_as_the_functions(self):
        for ground, word, other in rival_cases():
            watch = Watch(ground.house, word, other)
            self.assertEqual(watch.least(), fixed_count(ground.house, word, other))
            self.assertEqual(lets_fixed(ground.house, word, other, watch.checks()), watch.least())
            self.assertEqual(lets_plan(ground.house, word, other, watch.plan()), ground.rank(word) // 2 + 1)
            for seen in plain.all_words(ground.places)[::23] + [word, other]:
                if seen in ground.classes[word]:
                    self.assertEqual(watch.judged(seen), "word")
                elif seen in ground.classes[other]:
                    self.assertEqual(watch.judged(seen), "other")
                else:
                    self.seen_refused(watch, seen)

    def seen_refused(self, watch, seen):
        with self.assertRaises(NotUsable) as caught:
            watch.judged(seen)
        self.assertEqual((caught.exception.word, caught.exception.at), ("seen", -1))

    def test_other_values_are_not_seen(self):
        for seen in (None, True, 0, "", "Z", "ZII", "zI", ("ZI",), ["ZI"], "II", "XI", "ZZ"):
            self.seen_refused(Watch(LINE, "ZI", "IZ"), seen)

    def test_equal_to_like_watches_alone(self):
        watch = Watch(LINE, "ZI", "IZ")
        self.assertEqual(watch, Watch((2, ("XI", "ZZ", "IX")), "ZI", "IZ"))
        self.assertNotEqual(watch, Watch(LINE, "ZI", "IY"))
        self.assertNotEqual(watch, Watch(LINE, "YI", "IZ"))
        self.assertNotEqual(watch, Watch((2, ("IX", "ZZ", "XI")), "ZI", "IZ"))
        for other in (None, True, (LINE, "ZI", "IZ"), LINE, "ZI", [], 0):
            self.assertIs(watch == other, False)


class LargeTest(unittest.TestCase):
    """Rivals at the limits: up to sixty places and forty told words, plans for the rank twelve."""

    def cases(self):
        chance = plain.chance_of(85)
        found = []
        # Strict pieces of all ranks up to forty: a row with a branch, and marks that make a rest.
        for many, tail in ((6, 0), (8, 3), (10, 5), (12, 20), (14, 2), (20, 9), (40, 8)):
            places = many // 2 + tail
            words = row_with_branch(many, places)
            while len(words) < min(40, many + tail):
                mark = "".join(chance.choice("IX") for _ in range(tail))
                word = plain.plus(chance.choice(words), "I" * (places - tail) + mark)
                if word not in words:
                    words.append(word)
            house = (places, tuple(words))
            for _ in range(40):
                word = plain.random_word(chance, places)
                other = plain.total(places, [word] + [told for told in words if chance.random() < 0.5])
                if are_rivals(house, word, other):
                    found.append((house, word, other, many))
                    break
        return found

    def test_at_the_limits(self):
        cases = self.cases()
        self.assertGreaterEqual(len(cases), 6)
        chance = plain.chance_of(86)
        for house, word, other, rank in cases:
            checks = fixed_checks(house, word, other)
            self.assertIn(len(checks) - rank, (0, 1))
            self.assertEqual(lets_fixed(house, word, other, checks), len(checks))
            self.assertIs(comes_of(house, word, other), False)
            for some in ((), checks[1:], tuple(plain.random_word(chance, house[0]) for _ in range(20))):
                if confused_by(house, word, other, some):
                    one, two = confused_pair(house, word, other, some)
                    self.assertTrue(comes_of(house, word, one) and comes_of(house, other, two))
                    self.assertEqual(read_by(one, some), read_by(two, some))
            if rank <= 12:
                plan = plan_of(house, word, other)
                self.assertEqual(lets_plan(house, word, other, plan), rank // 2 + 1)
                self.walk_plan(house, word, other, plan, chance)

    def walk_plan(self, house, word, other, plan, chance):
        for _ in range(60):
            one, two = word, other
            for told in [chance.choice(house[1]) for _ in range(60)]:
                one = plain.plus(one, told) if plain.clash(one, told) else one
                two = plain.plus(two, told) if plain.clash(two, told) else two
            self.assertEqual((told_by(plan, one), told_by(plan, two)), ("word", "other"))


def row_with_branch(many, places):
    """A row of many - 1 words with a branch at the third one, as SIX, on many / 2 places and more."""
    words = []
    for k in range(many - 1):
        half = k // 2
        heads = ("Z" if at == half else "I" for at in range(places)) if k % 2 else (
            "X" if at in (half - 1, half) else "I" for at in range(places))
        words.append("".join(heads))
    return words + ["I" + "Z" * (many // 2 - 1) + "I" * (places - many // 2)]


if __name__ == "__main__":
    unittest.main()

"""[62] consequences, and the guarantees G7 and G8 of [11], over several houses and words."""

import itertools
import math
import unittest

from clashborn.balances import balance_of
from clashborn.classcounts import class_count
from clashborn.comingcounts import added_count, coming_count, still_count
from clashborn.crossed import crossed_basis
from clashborn.errors import NotUsable, Odd, Shared
from clashborn.housechanges import beside_house
from clashborn.letters import added
from clashborn.lettertables import letter_table, width_mean
from clashborn.madenumbers import made_at, made_before, made_list, next_made, number_of
from clashborn.making import is_made
from clashborn.piececounts import made_count, piece_count, sums_count
from clashborn.piecekinds import kind_of, kinds_of
from clashborn.sharings import share_at
from clashborn.signs import sign_by, sign_word
from clashborn.spans import dimension_of, rank_of, rest_basis
from clashborn.startcounts import made_with, piece_with
from clashborn.staying import stay_basis
from clashborn.tiework import met_by, piece_at, pieces_of
from clashborn.walking import walked
from clashborn.wordchanges import beside
from tests import plain
from tests.plain import LINE, LONES, SIX
from tests.test_counts import more_houses, samples
from tests.test_turns import large_houses


class ConsequencesOf62Test(unittest.TestCase):
    def test_crossed_bases(self):
        for house in more_houses(620) + large_houses(620):
            self.assertEqual(2 * len(crossed_basis(*house)[0]), rank_of(*house))

    def test_balances(self):
        seen = set()
        for house in more_houses(621) + large_houses(621):
            for piece in range(len(pieces_of(house))):
                try:
                    balance = balance_of(house, piece)
                except Odd:
                    continue
                places, words = house[0], tuple(house[1][told] for told in pieces_of(house)[piece])
                rest = rest_basis(places, words)
                by = sign_word(house, piece)
                # Signs of words of the rest add up, so some word has the sign 1 if one of the basis has.
                ones = any(sign_by(by, word) == 1 for word in rest)
                self.assertIs(balance == 0, ones)
                if balance != 0:
                    self.assertEqual(balance ** 2, 2 ** (dimension_of(places, words) + len(rest)))
                    if kind_of(house, piece) == "strict":
                        self.assertEqual(2 * piece_count(house, piece), sums_count(house, piece) - balance)
                        seen.add(balance > 0)
        self.assertEqual(seen, {True, False})

    def test_counts_of_what_is_made_and_comes(self):
        for house in more_houses(622) + large_houses(622):
            numbers = range(len(pieces_of(house)))
            self.assertEqual(made_count(house), sum(piece_count(house, piece) for piece in numbers))
            for told, word in enumerate(house[1]):
                self.assertEqual(coming_count(house, word), piece_count(house, piece_at(house, told)))
            self.assertEqual(still_count(house), 2 ** (2 * house[0] - dimension_of(*house)))

    def test_counts_of_a_class(self):
        chance = plain.chance_of(623)
        for house, word in samples(623, 2):
            many = coming_count(house, word)
            self.assertIs(many == 1, met_by(house, word) == ())
            for other in chance.sample(walked(house, word), min(3, many)):
                self.assertEqual(coming_count(house, other), many)
        for house in more_houses(624):
            left = set(plain.all_words(house[0]))
            counted = 0
            while left:
                word = min(left)
                counted += coming_count(house, word)
                left -= set(walked(house, word))
            self.assertEqual(counted, 4 ** house[0])

    def test_products_and_staying_words(self):
        chance = plain.chance_of(625)
        shared = 0
        for house, word in samples(625, 3):
            numbers = range(len(pieces_of(house)))
            product = math.prod(added_count(house, word, piece) for piece in numbers)
            stays = [stay_basis(house, word, piece) for piece in numbers]
            every = tuple(other for stay in stays for other in stay)
            right = product * 2 ** dimension_of(house[0], every)
            self.assertEqual(coming_count(house, word) * 2 ** len(every), right)
            if share_at(house, met_by(house, word)) is None:
                self.assertEqual(coming_count(house, word), product)
            else:
                shared += 1
            coming = walked(house, word)
            for stay in every:
                other = chance.choice(coming)
                self.assertIn(added(other, stay), coming)
        self.assertGreater(shared, 1)

    def test_houses_beside_each_other(self):
        chance = plain.chance_of(626)
        houses = [house for house in more_houses(626) if house[0] < 4] + [LINE, LONES]
        for _ in range(30):
            one, other = chance.choice(houses), chance.choice(houses)
            both = beside_house(one, other)
            self.assertEqual(made_count(both), made_count(one) + made_count(other))
            self.assertEqual(still_count(both), still_count(one) * still_count(other))
            word, behind = plain.random_word(chance, one[0]), plain.random_word(chance, other[0])
            many = coming_count(one, word) * coming_count(other, behind)
            self.assertEqual(coming_count(both, beside(word, behind)), many)
            if all(share_at(house, tuple(range(len(pieces_of(house))))) is None for house in (one, other)):
                self.assertEqual(class_count(both), class_count(one) * class_count(other))
            else:
                self.assertRaises(Shared, class_count, both)

    def test_starts(self):
        for house in more_houses(627):
            numbers = range(len(pieces_of(house)))
            for many in range(house[0] + 1):
                for start in list(map("".join, itertools.product("IXYZ", repeat=many)))[::1 + 4 ** many // 9]:
                    found = made_with(house, start)
                    self.assertEqual(found, sum(piece_with(house, piece, start) for piece in numbers))
                    if many < house[0]:
                        self.assertEqual(found, sum(made_with(house, start + letter) for letter in "IXYZ"))
                    else:
                        self.assertEqual(found, int(is_made(house, start)))

    def test_numbers(self):
        for house in more_houses(628):
            for word in list(made_list(house))[::5]:
                number = number_of(house, word)
                self.assertEqual(made_at(house, number), word)
                self.assertEqual(made_before(house, word), number)
                after = next_made(house, word)
                if after is None:
                    self.assertEqual(number, made_count(house) - 1)
                    self.assertRaises(NotUsable, made_at, house, number + 1)
                else:
                    self.assertEqual(number_of(house, after), number + 1)

    def test_tables(self):
        for house in more_houses(629) + large_houses(629):
            tables = [letter_table(house, place) for place in range(house[0])]
            for table in tables:
                self.assertEqual(sum(table), made_count(house))
            self.assertEqual(tables[0], tuple(made_with(house, letter) for letter in "IXYZ"))
            top, bottom = width_mean(house)
            self.assertEqual(top * made_count(house), bottom * sum(sum(table[1:]) for table in tables))
            self.assertEqual(math.gcd(top, bottom), 1)


class GuaranteesTest(unittest.TestCase):
    def test_what_strict_and_loose_pieces_make(self):
        seen = set()
        for house in more_houses(631) + large_houses(631):
            for piece, kind in enumerate(kinds_of(house)):
                if kind not in ("strict", "loose"):
                    continue
                words = tuple(house[1][told] for told in pieces_of(house)[piece])
                rest = rest_basis(house[0], words)
                d, r, g = dimension_of(house[0], words), len(rest), rank_of(house[0], words) // 2
                many = piece_count(house, piece)
                if kind == "loose":
                    self.assertEqual(many, 2 ** d - 2 ** r)
                    continue
                self.assertGreaterEqual(g, 3)
                by = sign_word(house, piece)
                if any(sign_by(by, word) == 1 for word in rest):
                    self.assertEqual(2 * many, (2 ** (2 * g) - 1) * 2 ** r)
                    seen.add("rest")
                else:
                    halves = [2 ** r * (2 ** (2 * g - 1) + step * 2 ** (g - 1)) for step in (1, -1)]
                    self.assertIn(many, halves)
                    seen.add(halves.index(many))
        self.assertEqual(seen, {"rest", 0, 1})

    def test_classes_of_one_piece(self):
        for house in more_houses(632) + large_houses(632):
            kinds = kinds_of(house)
            if len(kinds) == 1 and kinds[0] != "paired":
                free = 2 * house[0] - dimension_of(*house)
                wanted = {"strict": 3 * 2 ** free, "loose": 2 * 2 ** free, "lone": 3 * 2 ** (2 * house[0] - 2)}
                self.assertEqual(class_count(house), wanted[kinds[0]])

    def test_the_number_is_how_many_are_less(self):
        made = list(made_list(SIX))
        self.assertEqual(made, sorted(made))
        for number, word in enumerate(made):
            self.assertEqual((number_of(SIX, word), made_before(SIX, word)), (number, number))


if __name__ == "__main__":
    unittest.main()

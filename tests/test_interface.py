"""The interface: each name in the file that lists it, with its parameters; results of exactly the stated kinds."""

import copy
import importlib
import inspect
import unittest

from clashborn.comingpapers import lets_coming
from clashborn.crossed import lets_crossed
from clashborn.errors import InvalidPaper
from clashborn.fixedlists import lets_fixed
from clashborn.halls import is_hall
from clashborn.housechecker import lets_house
from clashborn.kindpapers import lets_kind
from clashborn.kinds import is_house, is_lot, is_words
from clashborn.ladderchecker import lets_ladder
from clashborn.leasthouses import lets_least
from clashborn.liveevents import is_event, is_log
from clashborn.making import lets_unmade
from clashborn.pairings import is_pairing
from clashborn.planning import lets_plan
from clashborn.presses import lets_play
from clashborn.refusals import lets_refusal
from clashborn.sixes import is_six
from clashborn.streetcoins import lets_slides
from clashborn.streets import is_street_web
from clashborn.sumpapers import lets_sum
from clashborn.toldrows import lets_told_row
from clashborn.turnchecker import lets_turns
from clashborn.turnpapers import lets_turn_paper
from clashborn.wishing import lets_wishes
from clashborn.withinpapers import lets_within
from tests import plain

FILES = {
    "kinds": "is_integer(thing), is_number(thing), is_word(thing), is_words(places, thing), is_lot(many, thing), "
             "is_house(thing)",
    "housechecker": "lets_house(thing)",
    "letters": "blank_of(places), added(one, other), sum_of(places, words), clashes(one, other), ys_of(word), "
               "width_of(word)",
    "wordchanges": "moved(word, order), recast(word, place, turned_to), beside(one, other)",
    "housechanges": "house_of(places, *words), with_word(house, word), without_word(house, told), "
                    "kept_words(house, lot), reordered(house, order), moved_house(house, order), "
                    "recast_house(house, place, turned_to), beside_house(house, other)",
    "turning": "turned(word, by), turned_along(word, words), told_walk(house, word, tolds)",
    "spans": "dimension_of(places, words), are_independent(places, words), first_basis(places, words), "
             "apart_basis(places, words), rest_basis(places, words), rank_of(places, words)",
    "sumpapers": "is_sum(places, words, word), sum_paper(places, words, word), lets_sum(places, words, word, thing), "
                 "relation_basis(house)",
    "wishing": "word_by(places, words, wishes), wish_paper(places, words, wishes), "
               "lets_wishes(places, words, wishes, thing)",
    "wordtexts": "short_line(word), house_line(house)",
    "wordreadings": "read_short(places, text), read_house(text)",
    "tiework": "ties_of(house), pieces_of(house), piece_at(house, told), met_by(house, word)",
    "lots": "lot_sum(house, lot), is_odd(house, lot), part_of(house, lot, piece), lots_added(one, other)",
    "pairings": "is_pairing(house, piece, thing), points_in(pairs), ends_of(house, piece, pairs, lot), "
                "pairing_of(house, piece)",
    "pairwork": "lot_with_ends(house, piece, pairs, ends), ring_basis(house, piece, pairs), "
                "whole_relation(house, piece, pairs), point_words(house, piece, pairs)",
    "sixes": "is_six(places, thing), six_of(house, piece)",
    "ladderchecker": "lets_ladder(house, thing)",
    "piecekinds": "kind_of(house, piece), kinds_of(house), odd_relation(house, piece)",
    "signs": "sign_word(house, piece), house_sign(house), sign_by(sign, word)",
    "kindpapers": "kind_paper(house, piece), lets_kind(house, piece, thing)",
    "pairtexts": "pairs_line(pairs), read_pairs(text)",
    "meetings": "meeting_of(house, word, piece), meetings_of(house, word), is_still(house, word)",
    "coinwork": "coins_of(house, piece, pairs, word), coins_after(house, piece, pairs, word, lot)",
    "lettings": "is_let(house, word, lot), side_of(house, word, lot, piece), shift_of(house, word, lot, piece)",
    "comings": "comes_of(house, word, other), lot_from(house, word, other)",
    "refusals": "refusal_of(house, word, other), lets_refusal(house, word, other, thing)",
    "comingpapers": "coming_paper(house, word, other), lets_coming(house, word, other, thing)",
    "making": "is_made(house, word), maker_of(house, word), unmade_paper(house, word), lets_unmade(house, word, thing)",
    "walking": "walked(house, word), made_walked(house, piece)",
    "classings": "classes_among(house, words), first_of(house, word)",
    "sharings": "share_at(house, pieces)",
    "fewest": "fewest_turns(house, word, other)",
    "turnwords": "turn_words(house, word, other)",
    "turnchecker": "lets_turns(house, word, thing)",
    "farthest": "farthest_turns(house, word)",
    "climbing": "ladder_of(house, word)",
    "laddertools": "used_rows(house, ladder, row), trimmed(house, ladder), ladders_joined(house, ladder, other)",
    "turnpapers": "turn_paper(house, word, other), lets_turn_paper(house, word, other, thing)",
    "toldrows": "told_row(house, word, other), lets_told_row(house, word, other, thing)",
    "spreads": "told_spread(house, word), made_spread(house, word)",
    "crossed": "crossed_basis(places, words), lets_crossed(places, words, thing)",
    "balances": "balance_of(house, piece)",
    "piececounts": "piece_count(house, piece), made_count(house), sums_count(house, piece)",
    "comingcounts": "coming_count(house, word), added_count(house, word, piece), still_count(house)",
    "staying": "stay_basis(house, word, piece)",
    "classcounts": "class_count(house)",
    "startcounts": "made_with(house, start), piece_with(house, piece, start)",
    "madenumbers": "made_before(house, word), number_of(house, word), made_at(house, number), next_made(house, word), "
                   "made_list(house)",
    "lettertables": "letter_table(house, place), width_mean(house)",
    "comparing": "is_within(house, other), makes_same(house, other), first_unmade(house, other)",
    "withinpapers": "within_paper(house, other), lets_within(house, other, thing)",
    "needless": "is_needless(house, told), stripped(house)",
    "leasthouses": "fewest_told(house), least_house(house), lets_least(house, thing), all_house(places)",
    "furthers": "kind_with(house, word), keeps_paired(house, word), tips_house(house, word), "
                "one_pointed(house, piece, word)",
    "joinings": "joined_pieces(house, word), pairing_with(house, word)",
    "tips": "kept_count(house), tip_count(house), tip_word(house, piece), tip_word_count(house, piece)",
    "stories": "story_of(house), pieces_story(house), first_tipped(house)",
    "strikes": "strike_kinds(house), pillars_of(house)",
    "readings": "read_by(word, checks), unseen_basis(places, words, checks)",
    "steadies": "is_steady(house, word, check), steady_basis(house, word)",
    "partchecks": "part_check(house, word, other)",
    "confusions": "are_rivals(house, word, other), confused_by(house, word, other, checks), "
                  "confused_pair(house, word, other, checks)",
    "fixedlists": "fixed_count(house, word, other), fixed_checks(house, word, other), "
                  "lets_fixed(house, word, other, thing)",
    "calms": "are_calm(words), calm_count(house, piece), calm_basis(house, piece)",
    "planning": "plan_of(house, word, other), lets_plan(house, word, other, thing)",
    "planwalks": "place_by(plan, word), told_by(plan, word), plan_checks(plan, word)",
    "beginnings": "steady_all(house, words), parted_words(house, words)",
    "halls": "is_hall(thing), hall_of(lamps, *ties), parts_of(hall), house_of_hall(hall), "
             "word_of_light(hall, rule, light), light_of_word(hall, word)",
    "presses": "may_press(hall, rule, light, lamp), pressed(hall, rule, light, lamp), "
               "lets_play(hall, rule, light, thing)",
    "lightcomings": "light_comes(hall, rule, light, other), lit_lot(hall, light, other)",
    "lightcounts": "light_count(hall, rule, light)",
    "plays": "play_of(hall, rule, light, other), play_levels(hall, rule, light)",
    "streets": "is_street_web(thing), street_web(points, *streets), point_word(points, point), "
               "coins_word(points, coins), house_of_streets(web)",
    "streetcoins": "coins_come(web, coins, other), fewest_jumps(web, coins, other), slid(web, coins, street), "
                   "lets_slides(web, coins, thing), slides_of(web, coins, other)",
    "liveevents": "is_event(thing), is_log(thing)",
    "stepping": "reason_of(house, held, event), step_of(house, held, event)",
    "replaying": "replayed(places, log), cut_log(log, many), held_walk(places, log)",
    "eventtexts": "event_line(event), log_text(log), read_event(text), read_log(text)",
    "desk": "desk_line(live, text)",
}
CLASSES = {
    ("houseclasses", "House"): "__init__(self, places, *words), told(self), with_word(self, word), "
                               "without(self, told), sum_at(self, lot), __eq__(self, other), __len__(self), "
                               "__add__(self, other)",
    ("piececlasses", "Piece"): "__init__(self, house, piece), kind(self), told(self), paper(self), sign(self), "
                               "made(self, word), __eq__(self, other)",
    ("sourceclasses", "Source"): "__init__(self, house, word), comes(self, other), refusal(self, other), meets(self), "
                                 "turned(self, told), held(self), same_class(self, other), __eq__(self, other)",
    ("routeclasses", "Route"): "__init__(self, house, word, other), fewest(self), words(self), back(self), "
                               "ends_in(self), __eq__(self, other)",
    ("bookclasses", "Book"): "__init__(self, house), total(self), at(self, number), number(self, word), "
                             "after(self, word), starting(self, start), __eq__(self, other)",
    ("sideclasses", "Sides"): "__init__(self, house, other), within(self), same(self), apart_at(self), fewest(self), "
                              "turned_about(self), __eq__(self, other)",
    ("watchclasses", "Watch"): "__init__(self, house, word, other), least(self), checks(self), plan(self), "
                               "judged(self, seen), __eq__(self, other)",
    ("live", "LiveHouse"): "__init__(self, places), tell(self, word), strike(self, told), hold(self, word), "
                           "turn(self, told), jump(self, word), drop(self), go(self, event), barred(self, event), "
                           "do_all(self, events, keep=False), undo(self, steps=1), tried(self, events), log(self), "
                           "path(self), tally(self), house_now(self), held_now(self), kinds(self), made(self, word), "
                           "comes(self, word), fewest(self, word), many(self), __eq__(self, other)",
}


def headings(text):
    """Pairs (name, parameters) of a list of headings."""
    return [(part.partition("(")[0], "(" + part.partition("(")[2] + ")") for part in text.rstrip(")").split("), ")]


class InterfaceTest(unittest.TestCase):
    def test_functions(self):
        for name, text in FILES.items():
            module = importlib.import_module("clashborn." + name)
            for function_name, parameters in headings(text):
                function = getattr(module, function_name)
                self.assertEqual(function.__module__, module.__name__)
                self.assertEqual(str(inspect.signature(function)), parameters)

    def test_classes(self):
        for (name, class_name), text in CLASSES.items():
            module = importlib.import_module("clashborn." + name)
            found = getattr(module, class_name)
            self.assertEqual(found.__module__, module.__name__)
            for method, parameters in headings(text):
                self.assertEqual(str(inspect.signature(vars(found)[method])), parameters)


class ValuesTest(unittest.TestCase):
    """[2]: any value may be passed as a thing, and nothing that is passed in is changed."""

    def any_values(self):
        deep = "X"
        for level in range(30):
            deep = (deep,) if level % 2 else [deep]
        wide = tuple(range(4999))
        words = [["XI", "ZZ"], ["IX", ["XI"]], [0, [1, 2]]]
        firsts = ("lot", "apart", "word", "odd", "lone", "paired", "strict", "loose", "still", "coins", "signs", "turns",
                  "within", "not", "tell", "hold", "drop", "strike", "turn")
        found = [deep, [deep], wide, list(wide), words, "X" * 4000, "IXYZ\n", 10 ** 59, -(10 ** 59), True, None, ()]
        for first in firsts:
            for rest in (deep, wide, words, 10 ** 59, True, None, "X" * 4000, ()):
                found += [(first, rest), [first, rest], (first, rest, rest), (first, rest, rest, rest)]
                found += [(first, ("XI", "ZZ", "IX"), rest, rest), (first, 0, rest, rest), (first, (0,), rest)]
        found += [(2, rest) for rest in found[:12]] + [(rest, ("XI",)) for rest in found[:12]]
        return found

    def test_checkers_accept_any_value(self):
        checkers = (
            lets_house, lambda thing: lets_sum(2, ("XI", "IX"), "YI", thing),
            lambda thing: lets_wishes(2, ("XI", "IX"), (1, 0), thing), lambda thing: lets_ladder(plain.LINE, thing),
            lambda thing: lets_kind(plain.LINE, 0, thing), lambda thing: lets_kind(plain.SIX, 0, thing),
            lambda thing: lets_kind(plain.BOTH, 1, thing), lambda thing: lets_refusal(plain.LINE, "XI", "II", thing),
            lambda thing: lets_refusal(plain.SIX, "XII", "IIZ", thing),
            lambda thing: lets_refusal(plain.ROW, "ZZZ", "IZZ", thing), lambda thing: lets_coming(plain.ROW, "ZZZ", "IZZ", thing),
            lambda thing: lets_unmade(plain.LINE, "II", thing), lambda thing: lets_unmade(plain.DUO, "II", thing),
            lambda thing: lets_turns(plain.LINE, "XI", thing),
            lambda thing: lets_turn_paper(plain.LINE, "XI", "IX", thing),
            lambda thing: lets_told_row(plain.LINE, "XI", "IX", thing),
            lambda thing: lets_crossed(2, ("XI", "ZZ", "IX"), thing), lambda thing: lets_crossed(1, (), thing),
            lambda thing: lets_within(plain.LINE, plain.FIVE, thing),
            lambda thing: lets_within(plain.FIVE, plain.LINE, thing),
            lambda thing: lets_least(plain.LINE, thing), lambda thing: lets_least((5000, ()), thing),
            lambda thing: lets_fixed(plain.LINE, "ZI", "IZ", thing), lambda thing: lets_plan(plain.LINE, "ZI", "IZ", thing),
            lambda thing: lets_plan(plain.SIX, "XII", "IIZ", thing),
            lambda thing: lets_play((3, ((0, 1), (1, 2))), "lit", (0,), thing),
            lambda thing: lets_play((3, ((0, 1), (1, 2))), "odd", (0,), thing),
            lambda thing: lets_slides((3, ((0, 1), (1, 2))), (0,), thing),
        )
        for thing in self.any_values():
            kept = copy.deepcopy(thing)
            for checker in checkers:
                try:
                    checker(thing)
                except InvalidPaper as error:
                    self.assertIs(type(error.word), str)
                    self.assertIs(type(error.at), int)
            self.assertEqual(thing, kept)

    def test_kinds_of_any_value(self):
        for thing in self.any_values():
            for found in (is_house(thing), is_lot(5, thing), is_words(2, thing), is_pairing(plain.LINE, 0, thing),
                          is_pairing(plain.SIX, 0, thing), is_six(3, thing), is_hall(thing), is_street_web(thing),
                          is_event(thing), is_log(thing)):
                self.assertIs(type(found), bool)


if __name__ == "__main__":
    unittest.main()

"""[12] parameters that are not as stated: which one NotUsable names, by position, by name and two at once."""

import itertools
import unittest

from clashborn.balances import balance_of
from clashborn.beginnings import parted_words, steady_all
from clashborn.bookclasses import Book
from clashborn.calms import calm_basis, calm_count
from clashborn.classings import classes_among, first_of
from clashborn.climbing import ladder_of
from clashborn.coinwork import coins_after, coins_of
from clashborn.comingcounts import added_count, coming_count
from clashborn.comingpapers import coming_paper, lets_coming
from clashborn.comings import comes_of, lot_from
from clashborn.comparing import first_unmade, is_within, makes_same
from clashborn.confusions import are_rivals, confused_by, confused_pair
from clashborn.crossed import crossed_basis, lets_crossed
from clashborn.desk import desk_line
from clashborn.errors import NotUsable
from clashborn.eventtexts import read_event, read_log
from clashborn.farthest import farthest_turns
from clashborn.fewest import fewest_turns
from clashborn.fixedlists import fixed_checks, fixed_count, lets_fixed
from clashborn.furthers import keeps_paired, kind_with, one_pointed, tips_house
from clashborn.halls import light_of_word, word_of_light
from clashborn.housechanges import (
    beside_house, kept_words, moved_house, recast_house, reordered, with_word, without_word,
)
from clashborn.joinings import joined_pieces, pairing_with
from clashborn.kindpapers import kind_paper, lets_kind
from clashborn.laddertools import ladders_joined, trimmed, used_rows
from clashborn.leasthouses import lets_least
from clashborn.letters import added, clashes, sum_of
from clashborn.lettertables import letter_table
from clashborn.lettings import is_let, shift_of, side_of
from clashborn.lightcomings import light_comes, lit_lot
from clashborn.lightcounts import light_count
from clashborn.live import LiveHouse
from clashborn.lots import is_odd, lot_sum, lots_added, part_of
from clashborn.madenumbers import made_at, made_before, next_made, number_of
from clashborn.making import is_made, lets_unmade, maker_of, unmade_paper
from clashborn.meetings import is_still, meeting_of, meetings_of
from clashborn.needless import is_needless
from clashborn.pairings import ends_of, is_pairing, pairing_of
from clashborn.pairtexts import read_pairs
from clashborn.pairwork import lot_with_ends, point_words, ring_basis, whole_relation
from clashborn.partchecks import part_check
from clashborn.piececlasses import Piece
from clashborn.piececounts import piece_count, sums_count
from clashborn.piecekinds import kind_of, odd_relation
from clashborn.planning import lets_plan, plan_of
from clashborn.planwalks import place_by, plan_checks, told_by
from clashborn.plays import play_levels, play_of
from clashborn.presses import lets_play, may_press, pressed
from clashborn.readings import read_by, unseen_basis
from clashborn.refusals import lets_refusal, refusal_of
from clashborn.replaying import cut_log, held_walk, replayed
from clashborn.routeclasses import Route
from clashborn.sharings import share_at
from clashborn.sideclasses import Sides
from clashborn.signs import sign_by, sign_word
from clashborn.sixes import six_of
from clashborn.sourceclasses import Source
from clashborn.spans import apart_basis, are_independent, dimension_of, first_basis, rank_of, rest_basis
from clashborn.spreads import made_spread, told_spread
from clashborn.startcounts import made_with, piece_with
from clashborn.staying import stay_basis
from clashborn.steadies import is_steady, steady_basis
from clashborn.stepping import reason_of, step_of
from clashborn.streetcoins import coins_come, fewest_jumps, lets_slides, slid, slides_of
from clashborn.streets import coins_word, point_word
from clashborn.sumpapers import is_sum, lets_sum, sum_paper
from clashborn.tiework import met_by, piece_at
from clashborn.tips import kept_count, tip_count, tip_word, tip_word_count
from clashborn.toldrows import lets_told_row, told_row
from clashborn.turnchecker import lets_turns
from clashborn.turning import told_walk, turned, turned_along
from clashborn.turnpapers import lets_turn_paper, turn_paper
from clashborn.turnwords import turn_words
from clashborn.walking import made_walked, walked
from clashborn.watchclasses import Watch
from clashborn.wishing import lets_wishes, wish_paper, word_by
from clashborn.withinpapers import lets_within, within_paper
from clashborn.wordchanges import beside, moved, recast
from clashborn.wordreadings import read_house, read_short
from tests.plain import BOTH, DUO, FIVE, LINE, MORE, SIX, TRIO

PAIRS = ((0, 1), (1, 2), (2, 3))
FIVE_PAIRS = ((0, 1), (1, 2), (2, 3), (3, 4), (4, 5))
# Two pieces, the first one with three words, the second one lone.
HOUSE = (3, ("XII", "IIX", "ZZI", "IXI"))


def bad_words(places):
    good = "X" * places
    return ["", good + "X", good[1:], "x" * places, "A" + good[1:], None, True, 1, 0, -1, (), (good,), [good], [], " "]


def bad_numbers(limit):
    return [limit, limit + 1, -1, True, False, None, "0", "", (), (0,), [0], 10 ** 40, -(10 ** 40)]


def bad_lots(many):
    found = [(many,), (0, many), (0, 0), (1, 0), (-1,), (True,), (False,), (0, True), [0], [], None, 0, 1, True, "", "0"]
    return found + [((0,),), ("0",), (None,), (10 ** 40,)]


def bad_tuples_of_words(places):
    good = "X" * places
    found = [None, good, [good], [], (good + "X",), (good, None), (1,), True, 0, "", (good, ""), ((good,),), (good, "x")]
    return found + [("A" * places,)]


def bad_orders(many):
    rising = tuple(range(many))
    found = [rising + (many,), rising[1:], list(rising), None, True, "", (0,) * many, (1,) * many, rising[:-1] + (many,)]
    return found + [rising[:-1] + (-1,), rising[:-1] + (None,), (False,) + rising[1:], rising[:-1] + ((0,),)]


def bad_wishes(many):
    good = (0,) * many
    found = [good + (0,), good[1:], list(good), None, 0, "", "0" * many, good[1:] + (2,), good[1:] + (-1,)]
    return found + [good[1:] + (True,), good[1:] + (False,), good[1:] + (None,), ((0,),) * many]


BAD_RECASTS = ["", "XY", "XYZZ", "XXZ", "xyz", "IXY", None, True, 0, ("X", "Y", "Z"), ["X", "Y", "Z"], "XYI", " XYZ"]
BAD_TEXTS = [None, True, 0, 1, (), ("1;",), ["1;"], [], (("",),)]
BAD_HOUSES = [
    None, True, 0, "", "1; X", (), (1,), [1, ("X",)], (1, ["X"]), (0, ()), (True, ("X",)), (1, ("I",)), (1, ("X", "X")),
    (1, ("XX",)), (2, ("XI", None)), (1, (), ()), ("1", ()),
]
BAD_PAIRINGS = [
    None, True, 0, "", "0-1 1-2 2-3", (), list(PAIRS), PAIRS[:2], PAIRS + ((3, 4),), ((0, 1), (1, 2), (1, 3)),
    ((0, 1), (1, 2), (2, 4)), ((1, 2), (2, 3), (3, 4)), ((1, 0), (1, 2), (2, 3)), ((0, 1), [1, 2], (2, 3)),
    ((0, 1), (1, 2), (2, 3, 4)), ((False, True), (True, 2), (2, 3)), ((0, 0), (1, 2), (2, 3)), ((-1, 0), (0, 1), (1, 2)),
    ((0, 1), (1, 2), None), (0, 1, 2), ((0, 1), (1, 2), ("2", "3")), ((0, 1), (1, 2), (2, 10 ** 40)),
    ((0, 1), (2, 3), (0, 1)),
]

BAD_LADDERS = [
    None, True, 0, "", "XI", (), ["XI"], ("II",), ("YZ",), ("XI", "IX", "XX"), ("XI", None), ("X",), (("XI",),),
]

BAD_STARTS = [None, True, 0, (), ("X",), ["X"], "x", "XA", " ", "XXX", "III", "-", "X I"]

# Two pieces, the first one strict, the second one lone.
SIX_BESIDE = (4, ("XIII", "ZIII", "XXII", "IZII", "IXXI", "IZZI", "IIIX"))
# Words that are no rivals of ZI by the house LINE.
NO_RIVALS = ["ZI", "YI", "XZ", "II", "XX", "XI"]
PLAN = (("XI",), (("ZI", 1), ("IZ", 0)))
PATH = (3, ((0, 1), (1, 2)))
BAD_RULES = [None, True, 0, 1, "", "even", "Lit", ("odd",), ["lit"], " odd"]
BAD_HELD = [value for value in bad_words(2) if value is not None]

# Each case: the function, then for each parameter its name, a good value, and the values to refuse, None for none.
CASES = [
    (added, ("one", "XI", None), ("other", "ZZ", bad_words(2))),
    (clashes, ("one", "XI", None), ("other", "ZZ", bad_words(2))),
    (sum_of, ("places", 2, None), ("words", ("XI", "II"), bad_tuples_of_words(2))),
    (moved, ("word", "XYZ", None), ("order", (2, 0, 1), bad_orders(3))),
    (recast, ("word", "XYZ", None), ("place", 2, bad_numbers(3)), ("turned_to", "ZXY", BAD_RECASTS)),
    (beside, ("one", "XI", None), ("other", "Z", ["", "x", "XA", None, True, 1, (), ("X",), ["X"], " X", "-"])),
    (with_word, ("house", LINE, None), ("word", "IZ", bad_words(2) + ["II", "XI", "ZZ", "IX"])),
    (without_word, ("house", LINE, None), ("told", 2, bad_numbers(3))),
    (kept_words, ("house", LINE, None), ("lot", (0, 2), bad_lots(3))),
    (reordered, ("house", LINE, None), ("order", (2, 0, 1), bad_orders(3))),
    (moved_house, ("house", SIX, None), ("order", (2, 0, 1), bad_orders(3))),
    (recast_house, ("house", LINE, None), ("place", 1, bad_numbers(2)), ("turned_to", "YXZ", BAD_RECASTS)),
    (beside_house, ("house", LINE, None), ("other", (1, ("X",)), BAD_HOUSES)),
    (turned, ("word", "XI", None), ("by", "ZZ", bad_words(2))),
    (turned_along, ("word", "XI", None), ("words", ("ZZ", "II"), bad_tuples_of_words(2))),
    (told_walk, ("house", LINE, None), ("word", "XI", bad_words(2)),
     ("tolds", (2, 1, 1), [None, 0, True, [0], [], (3,), (0, 3), (-1,), (True,), (0, None), "0", ((0,),), (10 ** 40,)])),
] + [
    (function, ("places", 2, None), ("words", ("XI", "II"), bad_tuples_of_words(2)))
    for function in (dimension_of, are_independent, first_basis, apart_basis, rest_basis, rank_of)
] + [
    (is_sum, ("places", 2, None), ("words", ("XI", "II"), bad_tuples_of_words(2)), ("word", "ZZ", bad_words(2))),
    (sum_paper, ("places", 2, None), ("words", ("XI", "II"), bad_tuples_of_words(2)), ("word", "ZZ", bad_words(2))),
    (lets_sum, ("places", 2, None), ("words", ("XI", "IX"), bad_tuples_of_words(2)), ("word", "XX", bad_words(2)),
     ("thing", ("lot", (0, 1)), None)),
    (word_by, ("places", 1, None), ("words", ("X", "Z"), bad_tuples_of_words(1)), ("wishes", (1, 0), bad_wishes(2))),
    (wish_paper, ("places", 1, None), ("words", ("X", "Z"), bad_tuples_of_words(1)), ("wishes", (1, 0), bad_wishes(2))),
    (lets_wishes, ("places", 1, None), ("words", ("X", "Z"), bad_tuples_of_words(1)), ("wishes", (1, 0), bad_wishes(2)),
     ("thing", ("word", "Z"), None)),
    (read_short, ("places", 3, None), ("text", "X0 Z2", BAD_TEXTS)),
    (read_house, ("text", "1; X Z", BAD_TEXTS)),
    (piece_at, ("house", HOUSE, None), ("told", 3, bad_numbers(4))),
    (met_by, ("house", HOUSE, None), ("word", "XYZ", bad_words(3))),
    (lot_sum, ("house", HOUSE, None), ("lot", (0, 3), bad_lots(4))),
    (is_odd, ("house", HOUSE, None), ("lot", (0, 3), bad_lots(4))),
    (part_of, ("house", HOUSE, None), ("lot", (0, 3), bad_lots(4)), ("piece", 1, bad_numbers(2))),
    (lots_added, ("one", (0, 1), None),
     ("other", (1, 2), [None, 0, True, "", [1], [], (1, 1), (2, 1), (-1,), (True,), (False, 1), (None,), ("1",), ((1,),)])),
    (is_pairing, ("house", HOUSE, None), ("piece", 1, bad_numbers(2)), ("thing", ((0, 1),), None)),
    (ends_of, ("house", LINE, None), ("piece", 0, bad_numbers(1)), ("pairs", PAIRS, BAD_PAIRINGS),
     ("lot", (0, 2), bad_lots(3))),
    (pairing_of, ("house", HOUSE, None), ("piece", 1, bad_numbers(2))),
    (lot_with_ends, ("house", LINE, None), ("piece", 0, bad_numbers(1)), ("pairs", PAIRS, BAD_PAIRINGS),
     ("ends", (0, 3), bad_lots(4) + [(0,), (0, 1, 2)])),
    (ring_basis, ("house", LINE, None), ("piece", 0, bad_numbers(1)), ("pairs", PAIRS, BAD_PAIRINGS)),
    (whole_relation, ("house", LINE, None), ("piece", 0, bad_numbers(1)), ("pairs", PAIRS, BAD_PAIRINGS)),
    (point_words, ("house", LINE, None), ("piece", 0, bad_numbers(1)), ("pairs", PAIRS, BAD_PAIRINGS)),
    (six_of, ("house", SIX, None), ("piece", 0, bad_numbers(1))),
    (kind_of, ("house", HOUSE, None), ("piece", 1, bad_numbers(2))),
    (odd_relation, ("house", HOUSE, None), ("piece", 1, bad_numbers(2))),
    (sign_word, ("house", HOUSE, None), ("piece", 1, bad_numbers(2))),
    (sign_by, ("sign", "YXZ", None), ("word", "XII", bad_words(3))),
    (kind_paper, ("house", HOUSE, None), ("piece", 1, bad_numbers(2))),
    (lets_kind, ("house", BOTH, None), ("piece", 1, bad_numbers(2)), ("thing", ("lone",), None)),
    (read_pairs, ("text", "0-1", BAD_TEXTS)),
    (Piece, ("house", BOTH, BAD_HOUSES), ("piece", 1, bad_numbers(2))),
    (meeting_of, ("house", DUO, None), ("word", "YZ", bad_words(2)), ("piece", 1, bad_numbers(2))),
    (meetings_of, ("house", DUO, None), ("word", "YZ", bad_words(2))),
    (is_still, ("house", DUO, None), ("word", "YZ", bad_words(2))),
    (coins_of, ("house", LINE, None), ("piece", 0, bad_numbers(1)), ("pairs", PAIRS, BAD_PAIRINGS),
     ("word", "ZI", bad_words(2))),
    (coins_after, ("house", LINE, None), ("piece", 0, bad_numbers(1)), ("pairs", PAIRS, BAD_PAIRINGS),
     ("word", "ZI", bad_words(2)), ("lot", (0, 2), bad_lots(3))),
    (is_let, ("house", DUO, None), ("word", "ZI", bad_words(2)), ("lot", (0, 1), bad_lots(3) + [(2,), (0, 2), (0, 1, 2)])),
    (side_of, ("house", DUO, None), ("word", "ZI", bad_words(2)), ("lot", (0, 1), bad_lots(3) + [(2,), (0, 2)]),
     ("piece", 0, bad_numbers(2) + [1])),
    (shift_of, ("house", (2, DUO[1] + ("YI",)), None), ("word", "ZI", bad_words(2)),
     ("lot", (0, 1, 3), bad_lots(4) + [(2,), (0, 2), (0,), (0, 1), (1, 3)]), ("piece", 0, bad_numbers(2) + [1])),
    (comes_of, ("house", LINE, None), ("word", "XI", bad_words(2)), ("other", "IX", bad_words(2))),
    (lot_from, ("house", LINE, None), ("word", "XI", bad_words(2)), ("other", "IX", bad_words(2))),
    (refusal_of, ("house", LINE, None), ("word", "XI", bad_words(2)), ("other", "II", bad_words(2))),
    (lets_refusal, ("house", LINE, None), ("word", "XI", bad_words(2)), ("other", "II", bad_words(2)),
     ("thing", ("still", 0), None)),
    (coming_paper, ("house", LINE, None), ("word", "XI", bad_words(2)), ("other", "II", bad_words(2))),
    (lets_coming, ("house", LINE, None), ("word", "XI", bad_words(2)), ("other", "II", bad_words(2)),
     ("thing", ("still", 0), None)),
    (is_made, ("house", LINE, None), ("word", "XX", bad_words(2))),
    (maker_of, ("house", LINE, None), ("word", "XX", bad_words(2))),
    (unmade_paper, ("house", LINE, None), ("word", "XX", bad_words(2) + ["XI", "YY"])),
    (lets_unmade, ("house", LINE, None), ("word", "II", bad_words(2)), ("thing", (("still", 0),), None)),
    (walked, ("house", LINE, None), ("word", "XX", bad_words(2))),
    (first_of, ("house", LINE, None), ("word", "XX", bad_words(2))),
    (made_walked, ("house", HOUSE, None), ("piece", 1, bad_numbers(2))),
    (classes_among, ("house", LINE, None), ("words", ("XI", "II"), bad_tuples_of_words(2))),
    (share_at, ("house", HOUSE, None), ("pieces", (0, 1), bad_lots(2))),
    (Source, ("house", LINE, BAD_HOUSES), ("word", "XX", bad_words(2))),
    (fewest_turns, ("house", LINE, None), ("word", "XI", bad_words(2)), ("other", "IX", bad_words(2))),
    (turn_words, ("house", LINE, None), ("word", "XI", bad_words(2)), ("other", "IX", bad_words(2))),
    (lets_turns, ("house", LINE, None), ("word", "XI", bad_words(2)), ("thing", (), None)),
    (farthest_turns, ("house", LINE, None), ("word", "XI", bad_words(2))),
    (ladder_of, ("house", LINE, None), ("word", "YY", bad_words(2) + ["II", "XX", "YI"])),
    (used_rows, ("house", LINE, None), ("ladder", ("XI", "ZZ", "YZ"), BAD_LADDERS), ("row", 2, bad_numbers(3))),
    (trimmed, ("house", LINE, None), ("ladder", ("XI", "ZZ", "YZ"), BAD_LADDERS)),
    (ladders_joined, ("house", LINE, None), ("ladder", ("XI",), BAD_LADDERS), ("other", ("IX",), BAD_LADDERS)),
    (turn_paper, ("house", LINE, None), ("word", "XI", bad_words(2)), ("other", "IX", bad_words(2))),
    (lets_turn_paper, ("house", LINE, None), ("word", "XI", bad_words(2)), ("other", "XI", bad_words(2)),
     ("thing", ("turns", (), ()), None)),
    (told_row, ("house", LINE, None), ("word", "XI", bad_words(2)), ("other", "IX", bad_words(2))),
    (lets_told_row, ("house", LINE, None), ("word", "XI", bad_words(2)), ("other", "XI", bad_words(2)), ("thing", (), None)),
    (told_spread, ("house", LINE, None), ("word", "XI", bad_words(2))),
    (made_spread, ("house", LINE, None), ("word", "XI", bad_words(2))),
    (Source(LINE, "XI").comes, ("other", "IX", bad_words(2))),
    (Source(LINE, "XI").refusal, ("other", "IX", bad_words(2))),
    (Source(LINE, "XI").turned, ("told", 2, bad_numbers(3))),
    (Source(LINE, "XI").same_class, ("other", Source(LINE, "II"), [None, "XI", (LINE, "XI"), Source(BOTH, "XI"), True])),
    (Route, ("house", LINE, BAD_HOUSES), ("word", "XI", bad_words(2)), ("other", "IX", bad_words(2))),
    (crossed_basis, ("places", 2, None), ("words", ("XI", "II"), bad_tuples_of_words(2))),
    (lets_crossed, ("places", 2, None), ("words", ("II", "II"), bad_tuples_of_words(2)), ("thing", ((), ()), None)),
    (balance_of, ("house", HOUSE, None), ("piece", 1, bad_numbers(2))),
    (piece_count, ("house", HOUSE, None), ("piece", 1, bad_numbers(2))),
    (sums_count, ("house", HOUSE, None), ("piece", 1, bad_numbers(2))),
    (coming_count, ("house", LINE, None), ("word", "XX", bad_words(2))),
    (added_count, ("house", HOUSE, None), ("word", "XYZ", bad_words(3)), ("piece", 1, bad_numbers(2))),
    (stay_basis, ("house", HOUSE, None), ("word", "XYZ", bad_words(3)), ("piece", 1, bad_numbers(2))),
    (made_with, ("house", LINE, None), ("start", "X", BAD_STARTS)),
    (piece_with, ("house", BOTH, None), ("piece", 1, bad_numbers(2)), ("start", "", BAD_STARTS)),
    (made_before, ("house", LINE, None), ("word", "XX", bad_words(2))),
    (number_of, ("house", LINE, None), ("word", "YY", bad_words(2) + ["XX", "II", "YI"])),
    (made_at, ("house", LINE, None), ("number", 5, bad_numbers(6))),
    (next_made, ("house", LINE, None), ("word", "XX", bad_words(2))),
    (letter_table, ("house", LINE, None), ("place", 1, bad_numbers(2))),
    (Book, ("house", LINE, BAD_HOUSES)),
    (Book(LINE).at, ("number", 5, bad_numbers(6))),
    (Book(LINE).number, ("word", "YY", bad_words(2) + ["XX"])),
    (Book(LINE).after, ("word", "XX", bad_words(2))),
    (Book(LINE).starting, ("start", "ZZ", BAD_STARTS)),
    (is_within, ("house", LINE, None), ("other", FIVE, BAD_HOUSES + [TRIO, (3, ())])),
    (makes_same, ("house", LINE, None), ("other", FIVE, BAD_HOUSES + [TRIO, (3, ())])),
    (first_unmade, ("house", LINE, None), ("other", FIVE, BAD_HOUSES + [TRIO, (3, ())])),
    (within_paper, ("house", LINE, None), ("other", FIVE, BAD_HOUSES + [TRIO, (3, ())])),
    (lets_within, ("house", (2, ()), None), ("other", FIVE, BAD_HOUSES + [TRIO, (3, ())]), ("thing", ("within", ()), None)),
    (is_needless, ("house", LINE, None), ("told", 2, bad_numbers(3))),
    (lets_least, ("house", LINE, None), ("thing", LINE, None)),
    (kind_with, ("house", LINE, None), ("word", "IZ", bad_words(2) + ["II", "XI", "ZZ", "IX"])),
    (keeps_paired, ("house", LINE, None), ("word", "IZ", bad_words(2) + ["II", "XI", "ZZ", "IX"])),
    (tips_house, ("house", LINE, None), ("word", "IZ", bad_words(2) + ["II", "XI", "ZZ", "IX"])),
    (one_pointed, ("house", BOTH, None), ("piece", 0, bad_numbers(2) + [1]), ("word", "YI", bad_words(2) + ["II", "XI", "IZ"])),
    (joined_pieces, ("house", LINE, None), ("word", "II", bad_words(2))),
    (pairing_with, ("house", LINE, None), ("word", "IZ", bad_words(2) + ["II", "XI", "ZZ", "IX"])),
    (kept_count, ("house", LINE, [SIX, MORE])),
    (tip_count, ("house", LINE, [SIX, MORE])),
    (tip_word, ("house", HOUSE, None), ("piece", 1, bad_numbers(2))),
    (tip_word, ("house", SIX_BESIDE, None), ("piece", 1, bad_numbers(2) + [0])),
    (tip_word_count, ("house", SIX_BESIDE, None), ("piece", 1, bad_numbers(2) + [0])),
    (Sides, ("house", LINE, BAD_HOUSES), ("other", FIVE, BAD_HOUSES + [TRIO, (3, ())])),
    (read_by, ("word", "ZI", None), ("checks", ("XI", "II", "XI"), bad_tuples_of_words(2))),
    (unseen_basis, ("places", 2, None), ("words", ("XI", "II"), bad_tuples_of_words(2)),
     ("checks", ("XI", "II"), bad_tuples_of_words(2))),
    (is_steady, ("house", LINE, None), ("word", "ZI", bad_words(2)), ("check", "XX", bad_words(2))),
    (steady_basis, ("house", LINE, None), ("word", "ZI", bad_words(2))),
    (part_check, ("house", LINE, None), ("word", "ZI", bad_words(2)), ("other", "IZ", bad_words(2))),
    (are_rivals, ("house", LINE, None), ("word", "ZI", bad_words(2)), ("other", "ZI", bad_words(2))),
    (confused_by, ("house", LINE, None), ("word", "ZI", bad_words(2)), ("other", "IZ", bad_words(2) + NO_RIVALS),
     ("checks", ("XI",), bad_tuples_of_words(2))),
    (confused_pair, ("house", LINE, None), ("word", "ZI", bad_words(2)), ("other", "IZ", bad_words(2) + NO_RIVALS),
     ("checks", ("XI",), bad_tuples_of_words(2))),
    (fixed_count, ("house", LINE, None), ("word", "ZI", bad_words(2)), ("other", "IZ", bad_words(2) + NO_RIVALS)),
    (fixed_checks, ("house", LINE, None), ("word", "ZI", bad_words(2)), ("other", "IZ", bad_words(2) + NO_RIVALS)),
    (lets_fixed, ("house", LINE, None), ("word", "ZI", bad_words(2)), ("other", "IZ", bad_words(2) + NO_RIVALS),
     ("thing", ("XI", "ZI", "IZ"), None)),
    (calm_count, ("house", HOUSE, None), ("piece", 1, bad_numbers(2))),
    (calm_basis, ("house", HOUSE, None), ("piece", 1, bad_numbers(2))),
    (plan_of, ("house", LINE, None), ("word", "ZI", bad_words(2)), ("other", "IZ", bad_words(2) + NO_RIVALS)),
    (lets_plan, ("house", LINE, None), ("word", "ZI", bad_words(2)), ("other", "IZ", bad_words(2) + NO_RIVALS),
     ("thing", PLAN, None)),
    (place_by, ("plan", PLAN, None), ("word", "XZ", bad_words(2))),
    (told_by, ("plan", PLAN, None), ("word", "XZ", bad_words(2))),
    (plan_checks, ("plan", PLAN, None), ("word", "XZ", bad_words(2))),
    (steady_all, ("house", LINE, None), ("words", ("ZI", "II"), bad_tuples_of_words(2))),
    (parted_words, ("house", LINE, None), ("words", ("ZI", "II"), bad_tuples_of_words(2))),
    (Watch, ("house", LINE, BAD_HOUSES), ("word", "ZI", bad_words(2)), ("other", "IZ", bad_words(2) + NO_RIVALS)),
    (Watch(LINE, "ZI", "IZ").judged, ("seen", "XZ", bad_words(2) + ["II", "XX", "XI"])),
    (word_of_light, ("hall", PATH, None), ("rule", "odd", BAD_RULES), ("light", (0, 2), bad_lots(3))),
    (light_of_word, ("hall", PATH, None), ("word", "XYZ", bad_words(3))),
    (may_press, ("hall", PATH, None), ("rule", "odd", BAD_RULES), ("light", (0, 2), bad_lots(3)),
     ("lamp", 1, bad_numbers(3))),
    (pressed, ("hall", PATH, None), ("rule", "lit", BAD_RULES), ("light", (0, 2), bad_lots(3)),
     ("lamp", 2, bad_numbers(3) + [1])),
    (lets_play, ("hall", PATH, None), ("rule", "lit", BAD_RULES), ("light", (0, 2), bad_lots(3)), ("thing", (0,), None)),
    (light_comes, ("hall", PATH, None), ("rule", "lit", BAD_RULES), ("light", (0, 2), bad_lots(3)), ("other", (), bad_lots(3))),
    (lit_lot, ("hall", PATH, None), ("light", (0, 2), bad_lots(3)), ("other", (), bad_lots(3))),
    (light_count, ("hall", PATH, None), ("rule", "lit", BAD_RULES), ("light", (0, 2), bad_lots(3))),
    (play_of, ("hall", PATH, None), ("rule", "odd", BAD_RULES), ("light", (0, 2), bad_lots(3)), ("other", (), bad_lots(3))),
    (play_levels, ("hall", PATH, None), ("rule", "odd", BAD_RULES), ("light", (0, 2), bad_lots(3))),
    (point_word, ("points", 3, None), ("point", 2, bad_numbers(3))),
    (coins_word, ("points", 3, None), ("coins", (0, 2), bad_lots(3))),
    (coins_come, ("web", PATH, None), ("coins", (0, 2), bad_lots(3)), ("other", (1,), bad_lots(3))),
    (fewest_jumps, ("web", PATH, None), ("coins", (0, 2), bad_lots(3)), ("other", (1,), bad_lots(3))),
    (slid, ("web", PATH, None), ("coins", (0, 1), bad_lots(3)), ("street", 1, bad_numbers(2) + [0])),
    (lets_slides, ("web", PATH, None), ("coins", (0, 1), bad_lots(3)), ("thing", (1,), None)),
    (slides_of, ("web", PATH, None), ("coins", (0, 2), bad_lots(3)), ("other", (1,), bad_lots(3))),
    (reason_of, ("house", LINE, None), ("held", None, BAD_HELD), ("event", 7, None)),
    (step_of, ("house", LINE, None), ("held", "II", BAD_HELD), ("event", ("drop",), None)),
    (LiveHouse, ("places", 60, [0, -1, True, False, None, "1", (1,), [1]])),
    (LiveHouse(2).do_all, ("events", (), [None, True, 0, "", [], ["drop"]]), ("keep", 7, None)),
    (LiveHouse(2).tried, ("events", (), [None, True, 0, "", [], ["drop"]])),
    (replayed(2, (("drop",),)[:0]).made, ("word", "XI", bad_words(2))),
    (replayed(2, (("hold", "XI"),)).comes, ("word", "XI", bad_words(2))),
    (replayed(2, (("hold", "XI"),)).fewest, ("word", "XI", bad_words(2))),
    (replayed, ("places", 2, None), ("log", (), [None, True, 0, "", [], [("drop",)]])),
    (held_walk, ("places", 2, None), ("log", (), [None, True, 0, "", [], [("drop",)]])),
    (cut_log, ("log", (("drop",),), None), ("many", 10 ** 40, [-1, True, False, None, "0", (0,), [0]])),
    (read_event, ("text", "drop", BAD_TEXTS)),
    (read_log, ("text", "", BAD_TEXTS)),
    (desk_line, ("live", LiveHouse(2), None), ("text", "house", BAD_TEXTS)),
    # Where pairs follow, the piece is to be a lone or paired one.
] + [
    (function, ("house", (4, ("XIII", "ZIII", "XXII", "IZII", "IXXI", "IZZI", "IIIX")), None),
     ("piece", 1, bad_numbers(2) + [0]), ("pairs", ((0, 1),), [None, ((0, 2),), ((1, 2),), [(0, 1)], (), FIVE_PAIRS]), *more)
    for function, more in (
        (ends_of, (("lot", (), bad_lots(7)),)), (lot_with_ends, (("ends", (0, 1), [(0,), (1,), (0, 2), None]),)),
        (ring_basis, ()), (whole_relation, ()), (point_words, ()),
        (coins_of, (("word", "IIIZ", bad_words(4)),)),
        (coins_after, (("word", "IIIZ", bad_words(4)), ("lot", (0, 6), bad_lots(7)))),
    )
] + [
    (Piece(MORE, 0).made, ("word", "IIZ", bad_words(3))),
]


def first_wrong(function, names, values):
    """The parameter that NotUsable names, or None; by position and by name it must be the same."""
    found = []
    for args, named in ((values, {}), ((), dict(zip(names, values)))):
        try:
            function(*args, **named)
            found.append(None)
        except NotUsable as error:
            found.append((error.word, error.at))
    assert found[0] == found[1], (function, names, values, found)
    return found[0]


class UsableTest(unittest.TestCase):
    def test_good_values(self):
        for function, *params in CASES:
            names = [name for name, _, _ in params]
            self.assertIsNone(first_wrong(function, names, [good for _, good, _ in params]), (function, names))

    def test_one_wrong_parameter(self):
        for function, *params in CASES:
            names = [name for name, _, _ in params]
            for k, (name, _, bads) in enumerate(params):
                for bad in bads or ():
                    values = [good for _, good, _ in params]
                    values[k] = bad
                    self.assertEqual(first_wrong(function, names, values), (name, -1), (function, values))

    def test_two_wrong_parameters(self):
        for function, *params in CASES:
            names = [name for name, _, _ in params]
            refusable = [k for k, param in enumerate(params) if param[2]]
            for low, high in itertools.combinations(refusable, 2):
                for bad in params[low][2]:
                    for worse in params[high][2][:3]:
                        values = [good for _, good, _ in params]
                        values[low], values[high] = bad, worse
                        self.assertEqual(first_wrong(function, names, values), (names[low], -1), (function, values))

    def test_all_wrong_parameters(self):
        for function, *params in CASES:
            refusable = [param for param in params if param[2]]
            if refusable:
                names = [name for name, _, _ in params]
                values = [bads[0] if bads else good for _, good, bads in params]
                self.assertEqual(first_wrong(function, names, values), (refusable[0][0], -1))

    def test_a_wrong_parameter_comes_before_other_errors(self):
        # Odd, Unlike, Ringed and InvalidPaper wait until all parameters are as stated.
        self.assertEqual(first_wrong(word_by, ["places", "words", "wishes"], [1, ("I",), (True,)]), ("wishes", -1))
        self.assertEqual(first_wrong(pairing_of, ["house", "piece"], [SIX, 1]), ("piece", -1))
        self.assertEqual(first_wrong(six_of, ["house", "piece"], [LINE, 1]), ("piece", -1))
        self.assertEqual(first_wrong(sign_word, ["house", "piece"], [MORE, True]), ("piece", -1))
        ringed = (2, ("XI", "ZI", "YZ"))
        pairs = ((0, 1), (1, 2), (0, 2))
        names = ["house", "piece", "pairs", "word", "lot"]
        self.assertEqual(first_wrong(coins_after, names, [ringed, 0, pairs, "IX", (3,)]), ("lot", -1))
        self.assertEqual(first_wrong(lets_kind, ["house", "piece", "thing"], [LINE, 1, None]), ("piece", -1))
        names = ["house", "word", "other", "thing"]
        self.assertEqual(first_wrong(lets_refusal, names, [LINE, "XI", "X", None]), ("other", -1))
        self.assertEqual(first_wrong(point_words, names[:1] + ["piece", "pairs"], [FIVE, 0, PAIRS]), ("pairs", -1))


if __name__ == "__main__":
    unittest.main()

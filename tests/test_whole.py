"""What holds over the whole program: True is no 1, like calls give like results, of plain kinds, and change nothing."""

import copy
import importlib
import unittest

from clashborn.bookclasses import Book
from clashborn.errors import NotUsable
from clashborn.live import LiveHouse
from clashborn.piececlasses import Piece
from clashborn.routeclasses import Route
from clashborn.sideclasses import Sides
from clashborn.sourceclasses import Source
from clashborn.watchclasses import Watch
from tests.plain import LINE, MORE, SIX, TRIO
from tests.test_interface import FILES, headings
from tests.test_usable import CASES, first_wrong

HALL = (3, ((0, 1), (1, 2)))
OBJECTS = (Book, LiveHouse, Route, Sides, Source, Watch, Piece)


def is_plain(value):
    """True if the value is made of integers, bools, None, strings, tuples and objects of the package."""
    if type(value) is tuple:
        return all(is_plain(entry) for entry in value)
    return value is None or type(value) in (int, bool, str) + OBJECTS


# Functions without a parameter that is refused, by their files, each with good arguments.
OTHERS = {
    "kinds": [("is_integer", 1), ("is_number", 0), ("is_word", "X"), ("is_words", 1, ("X",)), ("is_lot", 3, (0, 2)),
              ("is_house", LINE)],
    "housechecker": [("lets_house", LINE)],
    "letters": [("blank_of", 3), ("ys_of", "YIY"), ("width_of", "XIZ")],
    "housechanges": [("house_of", 2, "XI", "ZZ")],
    "sumpapers": [("relation_basis", TRIO)],
    "wordtexts": [("short_line", "XIZ"), ("house_line", TRIO)],
    "tiework": [("ties_of", LINE), ("pieces_of", LINE)],
    "pairings": [("points_in", ((0, 1), (1, 2)))],
    "sixes": [("is_six", 3, SIX[1])],
    "ladderchecker": [("lets_ladder", LINE, ("XI", "ZZ", "YZ"))],
    "piecekinds": [("kinds_of", LINE)],
    "signs": [("house_sign", SIX)],
    "pairtexts": [("pairs_line", ((0, 1), (1, 12)))],
    "piececounts": [("made_count", MORE)],
    "comingcounts": [("still_count", LINE)],
    "classcounts": [("class_count", SIX)],
    "lettertables": [("width_mean", LINE)],
    "needless": [("stripped", TRIO)],
    "leasthouses": [("fewest_told", MORE), ("least_house", MORE), ("all_house", 4)],
    "stories": [("story_of", MORE), ("pieces_story", MORE), ("first_tipped", MORE)],
    "strikes": [("strike_kinds", SIX), ("pillars_of", SIX)],
    "calms": [("are_calm", ("XI", "IX"))],
    "halls": [("is_hall", HALL), ("hall_of", 3, (2, 1)), ("parts_of", HALL), ("house_of_hall", HALL)],
    "streets": [("is_street_web", HALL), ("street_web", 3, (2, 1)), ("house_of_streets", HALL)],
    "liveevents": [("is_event", ("drop",)), ("is_log", (("drop",),))],
    "eventtexts": [("event_line", ("turn", 3)), ("log_text", (("drop",), ("turn", 3)))],
}


def other_calls():
    """Pairs (function, arguments) of OTHERS."""
    return [(getattr(importlib.import_module("clashborn." + name), call[0]), call[1:])
            for name, calls in OTHERS.items() for call in calls]


def all_calls():
    """Pairs (function, good arguments), with at least one for each function of the interface but the generator."""
    return [(function, good_values(params)) for function, *params in CASES] + other_calls()


def good_values(params):
    return [good for _, good, _ in params]


class WholeTest(unittest.TestCase):
    def test_true_and_false_are_no_numbers(self):
        many = 0
        for function, *params in CASES:
            names = [name for name, _, _ in params]
            for k, (name, good, bads) in enumerate(params):
                if type(good) is int and bads:
                    for value in (True, False):
                        values = good_values(params)
                        values[k] = value
                        self.assertEqual(first_wrong(function, names, values), (name, -1), function)
                        many += 1
        self.assertGreater(many, 100)

    def test_numbers_within_tuples(self):
        # Where a tuple of numbers is let, one with True for 1 or False for 0 is not.
        many = 0
        for function, *params in CASES:
            names = [name for name, _, _ in params]
            for k, (name, good, bads) in enumerate(params):
                if bads and type(good) is tuple and good and all(type(entry) is int for entry in good):
                    for at, entry in enumerate(good):
                        values = good_values(params)
                        values[k] = good[:at] + (bool(entry),) + good[at + 1:]
                        self.assertEqual(first_wrong(function, names, values), (name, -1), function)
                        many += 1
        self.assertGreater(many, 50)

    def test_each_function_is_called(self):
        called = {(function.__module__, function.__name__) for function, _ in all_calls() if hasattr(function, "__name__")}
        for name, text in FILES.items():
            for function_name, _ in headings(text):
                if function_name != "made_list":
                    self.assertIn(("clashborn." + name, function_name), called)

    def test_results_are_plain(self):
        for function, values in all_calls():
            self.assertTrue(is_plain(function(*values)), (function, function(*values)))

    def test_like_calls_give_like_results(self):
        for function, values in all_calls():
            first, second = function(*values), function(*values)
            self.assertEqual(first, second)
            if type(first) in OBJECTS and function not in (Source, Route, Book, Sides, Watch, LiveHouse):
                self.assertIsNot(first, second)

    def test_arguments_are_kept(self):
        for function, values in all_calls():
            kept = copy.deepcopy(values)
            function(*values)
            self.assertEqual(values, kept, function)

    def test_a_refused_call_keeps_its_arguments(self):
        for function, *params in CASES:
            for k, (_, _, bads) in enumerate(params):
                for bad in [bad for bad in bads or () if isinstance(bad, list)]:
                    values = good_values(params)
                    values[k] = bad
                    kept = copy.deepcopy(bad)
                    self.assertRaises(NotUsable, function, *values)
                    self.assertEqual(bad, kept)


if __name__ == "__main__":
    unittest.main()

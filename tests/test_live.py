"""[89] events and steps, [90] LiveHouse, [91] replays, lines of events and the desk, and what [92] says of them."""

import copy
import unittest

from clashborn.comingcounts import coming_count
from clashborn.comings import comes_of
from clashborn.desk import desk_line
from clashborn.errors import InvalidEvent, InvalidText, NothingToUndo, NotUsable, Refused, Shared
from clashborn.eventtexts import event_line, log_text, read_event, read_log
from clashborn.fewest import fewest_turns
from clashborn.live import LiveHouse
from clashborn.liveevents import is_event, is_log
from clashborn.making import is_made
from clashborn.piecekinds import kinds_of
from clashborn.replaying import cut_log, held_walk, replayed
from clashborn.stepping import reason_of, step_of
from tests import plain
from tests.plain import LINE, LONES, SIX

EVENTS = (("tell", "XI"), ("tell", "ZZ"), ("hold", "ZI"), ("turn", 0))
NO_EVENTS = [
    None, True, 0, "", "drop", (), ("drop", None), ("drop", ""), ["drop"], ("tell",), ("tell", ""), ("tell", "xI"),
    ("tell", "XI", "XI"), ["tell", "XI"], ("tell", ["XI"]), ("tell", 0), ("tell", None), ("tell", True), ("hold", None),
    ("hold", "X" * 61), ("tell", "X" * 61), ("jump", "A"), ("jump",), ("strike", -1), ("strike", True), ("strike", False),
    ("strike", "0"), ("strike",), ("strike", 0, 0), ("turn", None), ("turn", True), ("turn", (0,)), ("Tell", "XI"),
    (0, "XI"), (None, 0), (("tell",), "XI"), ("say", "XI"), ("tell ", "XI"), ("strike", "XI"), ("tell", 1), (["tell"], "X"),
]
GOOD_EVENTS = [("tell", "XI"), ("tell", "I"), ("tell", "X" * 60), ("strike", 0), ("strike", 10 ** 40), ("hold", "III"),
               ("hold", "Y" * 60), ("turn", 7), ("jump", "ZZ"), ("jump", "I"), ("drop",)]


def random_event(chance, places, many, made=()):
    """Any event, often one that is let."""
    name = chance.choice(("tell", "tell", "strike", "hold", "turn", "turn", "jump", "jump", "drop"))
    if name == "drop":
        return ("drop",)
    if name == "jump" and made and chance.random() < 0.8:
        return (name, chance.choice(made))
    if name in ("strike", "turn"):
        return (name, chance.randrange(max(1, many) + (chance.random() < 0.2)))
    return (name, plain.random_word(chance, places + (chance.random() < 0.05)))


def reason_by_trial(house, held, event):
    """reason_of as the document lists it."""
    if not is_event(event):
        return "shape"
    name, rest = event[0], event[1:]
    words = name in ("tell", "hold", "jump")
    if words and len(rest[0]) != house[0]:
        return "letters"
    if name == "tell" and set(rest[0]) == {"I"}:
        return "blank"
    if name == "tell" and rest[0] in house[1]:
        return "again"
    if name in ("strike", "turn") and rest[0] >= len(house[1]):
        return "told"
    if name in ("turn", "jump", "drop") and held is None:
        return "held"
    if name == "jump" and rest[0] not in plain.made_words(house):
        return "unmade"
    if name in ("turn", "jump") and not plain.clash(held, rest[0] if name == "jump" else house[1][rest[0]]):
        return "idle"
    return None


def step_by_trial(house, held, event):
    """step_of as the document lists it."""
    name = event[0]
    if name == "tell":
        return (house[0], house[1] + (event[1],)), held
    if name == "strike":
        return (house[0], tuple(word for k, word in enumerate(house[1]) if k != event[1])), held
    if name == "hold":
        return house, event[1]
    if name == "drop":
        return house, None
    return house, plain.plus(held, event[1] if name == "jump" else house[1][event[1]])


class EventsTest(unittest.TestCase):
    def test_is_event(self):
        for event in GOOD_EVENTS:
            self.assertIs(is_event(event), True, event)
        for thing in NO_EVENTS:
            self.assertIs(is_event(thing), False, thing)

    def test_is_log(self):
        self.assertIs(is_log(()), True)
        self.assertIs(is_log(tuple(GOOD_EVENTS)), True)
        self.assertIs(is_log((("drop",),) * 5000), True)
        for thing in (None, True, 0, "", [], list(GOOD_EVENTS), ("drop",), {}, "drop"):
            self.assertIs(is_log(thing), False, thing)
        for bad in NO_EVENTS:
            self.assertIs(is_log((("drop",), bad)), False, bad)


class StepTest(unittest.TestCase):
    def test_each_reason(self):
        house = (2, ("XI", "ZZ"))
        for event, held, reason in (
            (("tell", "X"), None, "letters"), (("hold", "XII"), "XI", "letters"), (("jump", "III"), None, "letters"),
            (("tell", "II"), None, "blank"), (("tell", "ZZ"), "ZZ", "again"), (("strike", 2), None, "told"),
            (("turn", 2), None, "told"), (("turn", 0), None, "held"), (("jump", "XX"), None, "held"), (("drop",), None, "held"),
            (("jump", "XX"), "ZI", "unmade"), (("jump", "II"), "ZI", "unmade"), (("turn", 1), "ZI", "idle"),
            (("jump", "ZZ"), "ZI", "idle"), (("jump", "YZ"), "YZ", "idle"),
        ):
            self.assertEqual(reason_of(house, held, event), reason, event)
            with self.assertRaises(InvalidEvent) as caught:
                step_of(house, held, event)
            self.assertIs(caught.exception.event, event)
            self.assertEqual(caught.exception.reason, reason)
        for event in NO_EVENTS:
            for held in (None, "ZI"):
                self.assertEqual(reason_of(house, held, event), "shape")
                with self.assertRaises(InvalidEvent) as caught:
                    step_of(house, held, event)
                self.assertIs(caught.exception.event, event)

    def test_each_event(self):
        house = (2, ("XI", "ZZ"))
        for event, held, there in (
            (("tell", "IX"), None, ((2, ("XI", "ZZ", "IX")), None)), (("tell", "IX"), "ZI", ((2, ("XI", "ZZ", "IX")), "ZI")),
            (("strike", 0), "XI", ((2, ("ZZ",)), "XI")), (("hold", "II"), None, (house, "II")),
            (("hold", "IY"), "II", (house, "IY")), (("turn", 0), "ZI", (house, "YI")), (("jump", "YZ"), "ZI", (house, "XZ")),
            (("drop",), "II", (house, None)),
        ):
            self.assertIsNone(reason_of(house, held, event))
            self.assertEqual(step_of(house, held, event), there)
            self.assertIs(type(step_of(house, held, event)), tuple)

    def test_by_trial(self):
        chance = plain.chance_of(89)
        seen = set()
        for _ in range(600):
            house = plain.random_house(chance, chance.choice((1, 2, 3)), chance.randrange(5))
            held = None if chance.random() < 0.3 else plain.random_word(chance, house[0])
            event = random_event(chance, house[0], len(house[1]))
            reason = reason_by_trial(house, held, event)
            seen.add(reason)
            self.assertEqual(reason_of(house, held, event), reason, (house, held, event))
            if reason is None:
                self.assertEqual(step_of(house, held, event), step_by_trial(house, held, event))
        self.assertEqual(seen, {None, "letters", "blank", "again", "told", "held", "unmade", "idle"})

    def test_held_is_refused(self):
        for function in (reason_of, step_of):
            for held in ("", "X", "XII", "xI", True, False, 0, (), ("XI",), ["XI"]):
                for event in (("drop",), None):
                    with self.assertRaises(NotUsable) as caught:
                        function(LINE, held, event)
                    self.assertEqual((caught.exception.word, caught.exception.at), ("held", -1))


class LiveTest(unittest.TestCase):
    def test_examples(self):
        live = LiveHouse(2)
        self.assertIsNone(live.do_all(EVENTS))
        self.assertEqual((live.path(), live.many(), live.barred(("jump", "XX"))), (("ZI", "YI"), 3, "unmade"))
        self.assertEqual(desk_line(live, "many"), "3")

    def test_at_first(self):
        live = LiveHouse(3)
        self.assertEqual((live.house_now(), live.held_now(), live.path(), live.log(), live.tally(), live.kinds()),
                         ((3, ()), None, (), (), (0, 0, 0), ()))
        self.assertIs(live.made("XII"), False)

    def test_places_are_refused(self):
        for places in (0, -1, True, False, None, "2", (2,), [2], ""):
            with self.assertRaises(NotUsable) as caught:
                LiveHouse(places)
            self.assertEqual((caught.exception.word, caught.exception.at), ("places", -1))

    def do_by_method(self, live, event):
        """Do the event by the method of its name."""
        done = getattr(live, event[0])(*event[1:])
        self.assertIsNone(done)

    def test_random_lives(self):
        chance = plain.chance_of(90)
        for places in (1, 2, 2, 3, 3, 3):
            live, twin = LiveHouse(places), LiveHouse(places)
            states = [(live.house_now(), None, ())]
            log = []
            for _ in range(60):
                house, held, path = states[-1]
                event = random_event(chance, places, len(house[1]), sorted(plain.made_words(house)))
                reason = reason_of(house, held, event)
                self.assertEqual(live.barred(event), reason)
                if reason is not None:
                    for function in (live.go, lambda event: self.do_by_method(live, event)):
                        with self.assertRaises(InvalidEvent) as caught:
                            function(event)
                        self.assertEqual((caught.exception.event, caught.exception.reason), (event, reason))
                elif chance.random() < 0.15 and log:
                    steps = chance.randrange(1, len(log) + 1)
                    self.assertIsNone(live.undo(steps))
                    twin.undo(steps)
                    del states[-steps:], log[-steps:]
                else:
                    self.assertIsNone(live.go(event))
                    self.do_by_method(twin, event)
                    after, now = step_of(house, held, event)
                    path = {"hold": (now,), "drop": (), "turn": path + (now,), "jump": path + (now,)}.get(event[0], path)
                    states.append((after, now, path))
                    log.append(event)
                self.hold_against(live, states[-1], log)
                self.assertEqual(live, twin)

    def hold_against(self, live, state, log):
        """Hold what the live house tells against the state and the functions that the document names."""
        house, held, path = state
        self.assertEqual((live.house_now(), live.held_now(), live.path(), live.log()), (house, held, path, tuple(log)))
        names = [event[0] for event in log]
        self.assertEqual(live.tally(), (names.count("tell"), names.count("strike"), names.count("turn") + names.count("jump")))
        self.assertEqual(live.kinds(), kinds_of(house))
        for word in plain.all_words(house[0])[::7]:
            self.assertIs(live.made(word), is_made(house, word))
            if held is None:
                self.held_missing(live.comes, word)
                self.held_missing(live.fewest, word)
                continue
            self.assertIs(live.comes(word), comes_of(house, held, word))
            self.assertEqual(self.told(live.fewest, word), self.told(fewest_turns, house, held, word))
        if held is None:
            self.held_missing(live.many)
        else:
            self.assertEqual(live.many(), coming_count(house, held))
        # [92]: a live house equals replayed of its log.
        self.assertEqual(live, replayed(house[0], live.log()))

    def told(self, function, *args):
        try:
            return function(*args)
        except (Refused, Shared) as error:
            return type(error), vars(error)

    def held_missing(self, function, *args):
        with self.assertRaises(NotUsable) as caught:
            function(*args)
        self.assertEqual((caught.exception.word, caught.exception.at), ("held", -1))

    def test_wrong_words_come_ahead_of_held(self):
        live = LiveHouse(2)
        for _ in range(2):
            for word in ("", "X", "XII", None, True, 0, ("XI",)):
                for function in (live.comes, live.fewest, live.made):
                    with self.assertRaises(NotUsable) as caught:
                        function(word)
                    self.assertEqual((caught.exception.word, caught.exception.at), ("word", -1))
            live.hold("XI")

    def test_refused_and_shared(self):
        live = LiveHouse(3)
        live.do_all(tuple(("tell", word) for word in LONES[1]) + (("hold", "ZZI"),))
        with self.assertRaises(Refused):
            live.fewest("III")
        live.hold("ZII")
        with self.assertRaises(Refused):
            live.fewest("XII")
        live.hold("IZI")
        live.tell("IIX")
        self.assertEqual(live.fewest("IZI"), 0)
        shared = LiveHouse(4)
        shared.do_all(tuple(("tell", word) for word in plain.SHARED[1]) + (("hold", "XXII"),))
        with self.assertRaises(Shared) as caught:
            shared.fewest("XXII")
        self.assertEqual(caught.exception.piece, 1)

    def test_do_all_undoes_what_it_did(self):
        bad = ("jump", "XX")
        events = EVENTS + (bad, ("drop",))
        for keep in (False, None, 0, 1, "", "True", (True,), [True], -1):
            live = LiveHouse(2)
            live.tell("IX")
            before = copy.deepcopy(live)
            with self.assertRaises(InvalidEvent) as caught:
                live.do_all(EVENTS[:1] + (bad,), keep)
            self.assertIs(caught.exception.event, bad)
            self.assertEqual(caught.exception.reason, "held")
            self.assertEqual(live, before)
            self.assertEqual(live.log(), (("tell", "IX"),))
        live = LiveHouse(2)
        with self.assertRaises(InvalidEvent) as caught:
            live.do_all(events, keep=True)
        self.assertIs(caught.exception.event, bad)
        self.assertEqual(caught.exception.reason, "unmade")
        self.assertEqual(live.log(), EVENTS)
        self.assertEqual(live.path(), ("ZI", "YI"))
        live = LiveHouse(2)
        with self.assertRaises(InvalidEvent):
            live.do_all(events=events)
        self.assertEqual(live, LiveHouse(2))

    def test_tried_does_nothing(self):
        live = LiveHouse(2)
        live.tell("IX")
        before = copy.deepcopy(live)
        house, held = live.tried((("tell", "XI"), ("hold", "ZI"), ("turn", 1)))
        self.assertEqual((house, held), ((2, ("IX", "XI")), "YI"))
        self.assertEqual(live.tried(()), ((2, ("IX",)), None))
        for bad in NO_EVENTS:
            with self.assertRaises(InvalidEvent) as caught:
                live.tried((("tell", "XI"), bad))
            self.assertIs(caught.exception.event, bad)
        self.assertEqual(live, before)
        self.assertEqual(live.log(), before.log())

    def test_events_are_refused(self):
        live = LiveHouse(2)
        for events in (None, True, 0, "", "drop", [], list(EVENTS), [("drop",)]):
            for function in (live.do_all, live.tried):
                with self.assertRaises(NotUsable) as caught:
                    function(events)
                self.assertEqual((caught.exception.word, caught.exception.at), ("events", -1))
            with self.assertRaises(NotUsable) as caught:
                live.do_all(events, True)
            self.assertEqual(caught.exception.word, "events")
        # An event by itself is a tuple, too, of entries that are none.
        with self.assertRaises(InvalidEvent) as caught:
            live.do_all(("drop",))
        self.assertEqual((caught.exception.event, caught.exception.reason), ("drop", "shape"))

    def test_undo(self):
        live = LiveHouse(2)
        live.do_all(EVENTS)
        live.undo()
        self.assertEqual((live.path(), live.log()), (("ZI",), EVENTS[:3]))
        live.go(("drop",))
        live.undo(steps=1)
        self.assertEqual(live.path(), ("ZI",))
        live.undo(2)
        self.assertEqual((live.house_now(), live.held_now(), live.log()), ((2, ("XI",)), None, EVENTS[:1]))
        for steps in (2, 3, 10 ** 40):
            with self.assertRaises(NothingToUndo) as caught:
                live.undo(steps)
            self.assertEqual(caught.exception.steps, steps)
        for steps in (0, -1, True, False, None, "1", (1,), [1]):
            with self.assertRaises(NotUsable) as caught:
                live.undo(steps)
            self.assertEqual((caught.exception.word, caught.exception.at), ("steps", -1))
        self.assertEqual(live.log(), EVENTS[:1])
        live.undo(1)
        self.assertEqual(live, LiveHouse(2))
        with self.assertRaises(NothingToUndo) as caught:
            live.undo()
        self.assertEqual(caught.exception.steps, 1)
        # Events undone and done again.
        live.do_all(EVENTS)
        again = LiveHouse(2)
        again.do_all(EVENTS)
        self.assertEqual(live, again)

    def test_a_held_word_struck_or_dropped(self):
        live = LiveHouse(2)
        live.do_all((("tell", "XI"), ("tell", "ZZ"), ("hold", "XI"), ("turn", 1), ("strike", 0)))
        self.assertEqual((live.held_now(), live.path()), ("YZ", ("XI", "YZ")))
        live.strike(0)
        self.assertEqual((live.held_now(), live.path(), live.house_now()), ("YZ", ("XI", "YZ"), (2, ())))
        self.assertEqual((live.many(), live.fewest("YZ"), live.comes("XI")), (1, 0, False))
        live.drop()
        self.assertEqual((live.held_now(), live.path()), (None, ()))
        self.assertEqual(live.barred(("drop",)), "held")
        self.assertEqual(live.tally(), (2, 2, 1))

    def test_equal_to_like_live_houses_alone(self):
        live, other = LiveHouse(2), LiveHouse(2)
        self.assertEqual(live, other)
        self.assertNotEqual(live, LiveHouse(3))
        # The same house, but by another log.
        live.do_all((("tell", "XI"), ("hold", "ZI")))
        other.do_all((("hold", "ZI"), ("tell", "XI")))
        self.assertEqual((live.house_now(), live.held_now(), live.path()), (other.house_now(), other.held_now(), other.path()))
        self.assertNotEqual(live, other)
        for thing in (None, True, 0, "", (), live.log(), live.house_now(), [live]):
            self.assertIs(live == thing, False)

    def test_arguments_are_kept(self):
        live = LiveHouse(2)
        events = tuple(list(EVENTS))
        live.do_all(events)
        self.assertEqual(events, EVENTS)
        bad = [["tell", "XI"], 1]
        kept = copy.deepcopy(bad)
        with self.assertRaises(InvalidEvent) as caught:
            live.go(bad)
        self.assertIs(caught.exception.event, bad)
        self.assertEqual(bad, kept)

    def test_methods_give_what_they_get_to_go(self):
        live = LiveHouse(2)
        for bad in (None, True, "", [], ("XI",), 5):
            for name in ("tell", "strike", "hold", "turn", "jump"):
                with self.assertRaises(InvalidEvent) as caught:
                    getattr(live, name)(bad)
                self.assertEqual(caught.exception.event[0], name)
                self.assertIs(caught.exception.event[1], bad)
                self.assertEqual(caught.exception.reason, "told" if bad == 5 and name in ("strike", "turn") else "shape")
        live.tell(word="XI")
        live.hold(word="ZI")
        live.turn(told=0)
        live.jump(word="XI")
        live.strike(told=0)
        self.assertEqual(live.path(), ("ZI", "YI", "ZI"))

    def test_path_words_come(self):
        # [92]: while no word is struck, all words of the path come of the held one.
        chance = plain.chance_of(92)
        for places in (2, 3, 4):
            live = LiveHouse(places)
            for _ in range(60):
                event = random_event(chance, places, len(live.house_now()[1]))
                if event[0] != "strike" and live.barred(event) is None:
                    live.go(event)
                    self.assertTrue(all(live.comes(word) for word in live.path()))


class ReplayTest(unittest.TestCase):
    def test_replayed(self):
        live = LiveHouse(2)
        live.do_all(EVENTS)
        self.assertEqual(replayed(2, EVENTS), live)
        self.assertEqual(replayed(2, ()), LiveHouse(2))
        self.assertIs(type(replayed(2, EVENTS)), LiveHouse)
        self.assertEqual(replayed(places=2, log=EVENTS), live)

    def test_held_walk(self):
        self.assertEqual(held_walk(2, EVENTS + (("drop",),)), (None, None, "ZI", "YI", None))
        self.assertEqual(held_walk(2, ()), ())
        chance = plain.chance_of(91)
        for _ in range(20):
            live = LiveHouse(2)
            held = []
            for _ in range(30):
                event = random_event(chance, 2, len(live.house_now()[1]))
                if live.barred(event) is None:
                    live.go(event)
                    held.append(live.held_now())
            self.assertEqual(held_walk(2, live.log()), tuple(held))
            self.assertEqual(replayed(2, live.log()), live)

    def test_the_first_event_that_is_not_let(self):
        for function in (replayed, held_walk):
            for bad, reason in ((("turn", 5), "told"), (("jump", "XX"), "unmade"), (None, "shape"), (["drop"], "shape")):
                with self.assertRaises(InvalidEvent) as caught:
                    function(2, EVENTS + (bad, ("strike", 99)))
                self.assertIs(caught.exception.event, bad)
                self.assertEqual(caught.exception.reason, reason)
            for log in (None, True, 0, "", [], list(EVENTS)):
                with self.assertRaises(NotUsable) as caught:
                    function(2, log)
                self.assertEqual((caught.exception.word, caught.exception.at), ("log", -1))

    def test_cut_log(self):
        for many in range(8):
            self.assertEqual(cut_log(EVENTS, many), (EVENTS[:many], EVENTS[many:]))
        self.assertEqual(cut_log((), 10 ** 40), ((), ()))
        for many in (-1, True, False, None, "1", (1,)):
            with self.assertRaises(NotUsable) as caught:
                cut_log(EVENTS, many)
            self.assertEqual((caught.exception.word, caught.exception.at), ("many", -1))


class TextsTest(unittest.TestCase):
    def test_lines(self):
        self.assertEqual([event_line(event) for event in EVENTS], ["tell XI", "tell ZZ", "hold ZI", "turn 0"])
        self.assertEqual(event_line(("drop",)), "drop")
        self.assertEqual(log_text(EVENTS), "tell XI\ntell ZZ\nhold ZI\nturn 0")
        self.assertEqual((log_text(()), read_log(""), read_log("drop")), ("", (), (("drop",),)))

    def test_read_back(self):
        for event in GOOD_EVENTS:
            self.assertEqual(read_event(event_line(event)), event)
            self.assertIs(type(read_event(event_line(event))), tuple)
            self.assertEqual(event_line(read_event(event_line(event))), event_line(event))
        for many in range(len(GOOD_EVENTS)):
            log = tuple(GOOD_EVENTS[:many])
            self.assertEqual(read_log(log_text(log)), log)
            self.assertEqual(log_text(read_log(log_text(log))), log_text(log))

    BADS = [
        ("", 0), (" ", 0), ("say XI", 0), ("Tell XI", 0), ("tell", 1), ("tell ", 1), ("tell  XI", 1), ("tell xI", 1),
        ("tell XA", 1), ("tell XI ", 2), ("tell XI XI", 2), ("tell XI X x", 2), (" tell XI", 0), ("drop ", 1), ("drop XI", 1),
        ("drop 0", 1), ("strike", 1), ("strike XI", 1), ("strike 01", 1), ("strike -1", 1), ("strike +1", 1), ("strike 1.0", 1),
        ("strike 00", 1), ("strike 1 2", 2), ("turn 1_0", 1), ("turn ", 1), ("turn 0 ", 2), ("hold 0", 1), ("hold", 1),
        ("jump", 1), ("jump XI\t", 1), ("turn", 1), ("tell\tXI", 0), ("made", 0), ("tell " + "X" * 61, 1), ("drop drop", 1),
        ("strike 0x1", 1), ("strike True", 1), ("XI", 0), ("0", 0), ("tell None", 1), ("strike 1\u00b2", 1),
    ]

    def test_wrong_lines(self):
        for text, field in self.BADS:
            self.assertEqual(self.refused(read_event, text), (0, field), text)
            if text:
                self.assertEqual(self.refused(read_log, text), (0, field), text)
                self.assertEqual(self.refused(read_log, "drop\ntell XI\n" + text + "\n" + text), (2, field), text)
        for text in ("tell XI\ndrop", "drop\ndrop"):
            self.assertEqual(self.refused(read_event, text), (0, 0 if text[0] == "d" else 1))
        self.assertEqual(self.refused(read_log, "\n"), (0, 0))
        self.assertEqual(self.refused(read_log, "drop\n"), (1, 0))
        self.assertEqual(self.refused(read_log, "drop\n\ndrop"), (1, 0))
        self.assertEqual(self.refused(read_log, "drop\ndrop x\nsay"), (1, 1))

    def refused(self, function, *args):
        with self.assertRaises(InvalidText) as caught:
            function(*args)
        self.assertIs(type(caught.exception.line), int)
        self.assertIs(type(caught.exception.field), int)
        return (caught.exception.line, caught.exception.field)

    def test_no_strings(self):
        for function in (read_event, read_log, lambda text: desk_line(LiveHouse(2), text)):
            for text in (None, True, 0, (), ("drop",), ["drop"], 1):
                with self.assertRaises(NotUsable) as caught:
                    function(text)
                self.assertEqual((caught.exception.word, caught.exception.at), ("text", -1))

    def test_great_numbers(self):
        self.assertEqual(read_event("strike " + "9" * 40), ("strike", 10 ** 40 - 1))
        self.assertEqual(read_event(event_line(("turn", 10 ** 40))), ("turn", 10 ** 40))


class DeskTest(unittest.TestCase):
    def live(self):
        live = LiveHouse(2)
        live.do_all(EVENTS)
        return live

    def test_events(self):
        live = LiveHouse(2)
        for event in EVENTS + (("drop",), ("strike", 0)):
            self.assertEqual(desk_line(live, event_line(event)), "done")
        self.assertEqual(live, replayed(2, EVENTS + (("drop",), ("strike", 0))))

    def test_answers(self):
        live = self.live()
        kept = copy.deepcopy(live)
        for text, answer in (
            ("made YZ", "yes"), ("made XX", "no"), ("made II", "no"), ("comes ZI", "yes"), ("comes XX", "no"), ("many", "3"),
            ("fewest YI", "0"), ("fewest ZI", "1"), ("fewest II", "no"), ("kinds", "paired"), ("held", "YI"),
            ("house", "2; XI ZZ"),
        ):
            self.assertEqual(desk_line(live, text), answer, text)
        self.assertEqual(live, kept)
        empty = LiveHouse(3)
        self.assertEqual([desk_line(empty, text) for text in ("kinds", "held", "house", "made XYZ")], ["-", "-", "3;", "no"])
        six = LiveHouse(3)
        six.do_all(tuple(("tell", word) for word in SIX[1]) + (("hold", "XII"),))
        self.assertEqual([desk_line(six, text) for text in ("kinds", "many", "fewest ZII", "fewest IIZ", "comes IIZ")],
                         ["strict", "36", "1", "no", "no"])
        both = LiveHouse(2)
        both.do_all((("tell", "XI"), ("tell", "IZ"), ("tell", "ZI"), ("hold", "II")))
        self.assertEqual([desk_line(both, text) for text in ("kinds", "held", "many")], ["paired lone", "II", "1"])

    def test_errors_of_text(self):
        live = self.live()
        kept = copy.deepcopy(live)
        bads = [(text, field) for text, field in TextsTest.BADS if text != "made"]
        bads += [("made", 1), ("made ", 1), ("made XI ", 2), ("made 0", 1), ("comes", 1), ("fewest x", 1), ("fewest XI XI", 2),
                 ("many ", 1), ("many XI", 1), ("kinds 0", 1), ("held -", 1), ("house ", 1), ("Many", 0), ("log", 0),
                 ("path", 0), ("undo", 0), ("made " + "X" * 61, 1), ("many\n", 0), ("drop\n", 0), ("comes  XI", 1)]
        for text, field in bads:
            with self.assertRaises(InvalidText) as caught:
                desk_line(live, text)
            self.assertEqual((caught.exception.line, caught.exception.field), (0, field), text)
        self.assertEqual(live, kept)

    def test_errors_of_methods(self):
        live = LiveHouse(2)
        live.do_all(EVENTS[:2])
        for text, word in (("made X", "word"), ("comes XII", "word"), ("fewest X", "word"), ("comes XI", "held"),
                           ("fewest XI", "held"), ("many", "held")):
            with self.assertRaises(NotUsable) as caught:
                desk_line(live, text)
            self.assertEqual((caught.exception.word, caught.exception.at), (word, -1), text)
        for text, event, reason in (
            ("drop", ("drop",), "held"), ("turn 0", ("turn", 0), "held"), ("turn 7", ("turn", 7), "told"),
            ("tell II", ("tell", "II"), "blank"), ("tell XI", ("tell", "XI"), "again"), ("hold X", ("hold", "X"), "letters"),
            ("strike 2", ("strike", 2), "told"),
        ):
            with self.assertRaises(InvalidEvent) as caught:
                desk_line(live, text)
            self.assertEqual((caught.exception.event, caught.exception.reason), (event, reason))
        self.assertEqual(live.log(), EVENTS[:2])
        shared = LiveHouse(4)
        shared.do_all(tuple(("tell", word) for word in plain.SHARED[1]) + (("hold", "XXII"),))
        with self.assertRaises(Shared):
            desk_line(shared, "fewest XXII")
        self.assertEqual(desk_line(shared, "fewest IIII"), "no")


if __name__ == "__main__":
    unittest.main()

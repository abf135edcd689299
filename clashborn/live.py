"""A live house: told words and a held word that change by events, which can be undone."""

from clashborn.comingcounts import coming_count
from clashborn.comings import comes_of
from clashborn.errors import InvalidEvent, NothingToUndo
from clashborn.fewest import fewest_turns
from clashborn.kinds import is_integer
from clashborn.making import is_made
from clashborn.piecekinds import kinds_of
from clashborn.stepping import reason_in, step_in
from clashborn.usable import need, need_word


def path_after(path, event, held):
    """The path after an event that was let, held being what is held then."""
    if event[0] == "hold":
        return (held,)
    if event[0] == "drop":
        return ()
    return path + (held,) if event[0] in ("turn", "jump") else path


class LiveHouse:
    """A house, a held word or None, and the log of the events that made them."""

    def __init__(self, places):
        need(is_integer(places) and places >= 1, "places")
        self._done = ()
        # Behind each event of the log, and before all: the house, the held word and the path.
        self._states = [((places, ()), None, ())]

    def __eq__(self, other):
        return (isinstance(other, LiveHouse) and self._done == other._done
                and self._states[-1] == other._states[-1])

    def tell(self, word):
        """Tell the word last."""
        self.go(("tell", word))

    def strike(self, told):
        """Leave the word told so out."""
        self.go(("strike", told))

    def hold(self, word):
        """Hold the word."""
        self.go(("hold", word))

    def turn(self, told):
        """Turn the held word by the word told so."""
        self.go(("turn", told))

    def jump(self, word):
        """Turn the held word by the made word."""
        self.go(("jump", word))

    def drop(self):
        """Hold None."""
        self.go(("drop",))

    def go(self, event):
        """Do the event; InvalidEvent if it is not let."""
        house, held, path = self._states[-1]
        reason = reason_in(house, held, event)
        if reason is not None:
            raise InvalidEvent(event, reason)
        next_house, next_held = step_in(house, held, event)
        self._states.append((next_house, next_held, path_after(path, event, next_held)))
        self._done = self._done + (event,)

    def barred(self, event):
        """None if the event is let, otherwise the first reason against it."""
        house, held, _ = self._states[-1]
        return reason_in(house, held, event)

    def do_all(self, events, keep=False):
        """Do each of events; if one is not let, InvalidEvent, and what was done stays only if keep is True."""
        need(isinstance(events, tuple), "events")
        many = len(self._done)
        for event in events:
            reason = self.barred(event)
            if reason is not None:
                if keep is not True:
                    self._back_to(many)
                raise InvalidEvent(event, reason)
            self.go(event)

    def undo(self, steps=1):
        """Put all back to what it was before the last steps events; NothingToUndo if the log has fewer."""
        need(is_integer(steps) and steps >= 1, "steps")
        if steps > len(self._done):
            raise NothingToUndo(steps)
        self._back_to(len(self._done) - steps)

    def _back_to(self, many):
        """Put all back to what it was behind so many events."""
        self._done = self._done[:many]
        self._states = self._states[:many + 1]

    def tried(self, events):
        """The pair (house, held) that do_all(events) would leave."""
        need(isinstance(events, tuple), "events")
        house, held, _ = self._states[-1]
        for event in events:
            reason = reason_in(house, held, event)
            if reason is not None:
                raise InvalidEvent(event, reason)
            house, held = step_in(house, held, event)
        return (house, held)

    def log(self):
        """The tuple of the events done and not undone."""
        return self._done

    def path(self):
        """The words held since the last "hold"; () if None is held."""
        return self._states[-1][2]

    def tally(self):
        """How many events of the log are "tell"; "strike"; "turn" or "jump"."""
        names = [event[0] for event in self._done]
        return (names.count("tell"), names.count("strike"), names.count("turn") + names.count("jump"))

    def house_now(self):
        """The house."""
        return self._states[-1][0]

    def held_now(self):
        """The held word, or None."""
        return self._states[-1][1]

    def kinds(self):
        """The kinds of all pieces, in sequence."""
        return kinds_of(self.house_now())

    def made(self, word):
        """True if the word is a made word of the house, otherwise False."""
        return is_made(self.house_now(), word)

    def comes(self, word):
        """True if the word comes of the held word, otherwise False."""
        need_word(self.house_now()[0], word)
        need(self.held_now() is not None, "held")
        return comes_of(self.house_now(), self.held_now(), word)

    def fewest(self, word):
        """The fewest turns from the held word to the word; Refused and Shared as fewest_turns."""
        need_word(self.house_now()[0], word)
        need(self.held_now() is not None, "held")
        return fewest_turns(self.house_now(), self.held_now(), word)

    def many(self):
        """How many words come of the held word."""
        need(self.held_now() is not None, "held")
        return coming_count(self.house_now(), self.held_now())

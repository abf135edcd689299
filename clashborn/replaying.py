"""Logs of events, done once more and cut."""

from clashborn.kinds import is_number
from clashborn.live import LiveHouse
from clashborn.usable import need


def replayed(places, log):
    """A LiveHouse that did the events of the log; InvalidEvent of the first that is not let."""
    live = LiveHouse(places)
    need(isinstance(log, tuple), "log")
    live.do_all(log)
    return live


def cut_log(log, many):
    """The pair of the first many events, or all if there are fewer, and the others."""
    need(is_number(many), "many")
    return (log[:many], log[many:])


def held_walk(places, log):
    """The tuple of what is held after each event of the log; InvalidEvent of the first that is not let."""
    live = LiveHouse(places)
    need(isinstance(log, tuple), "log")
    walk = []
    for event in log:
        live.go(event)
        walk.append(live.held_now())
    return tuple(walk)

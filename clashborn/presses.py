"""Presses of lamps, one by one."""

from clashborn.bits import crossing_mask, lot_of, mask_of
from clashborn.errors import InvalidPaper
from clashborn.halls import need_light, need_rule
from clashborn.kinds import is_below
from clashborn.usable import need
from clashborn.webs import near_masks


class Presses:
    """A hall and a rule: for lights, as masks of their lamps, which lamps may be pressed, and what that changes."""

    def __init__(self, hall, rule):
        self.ties = near_masks(hall)
        self.rule = rule
        # What is added to a light when a lamp is pressed.
        self.codes = self.ties if rule == "lit" else [1 << lamp for lamp in range(hall[0])]

    def crossing(self, lit):
        """The mask of the lamps that may be pressed at the light of this mask."""
        if self.rule == "lit":
            return lit
        return crossing_mask(lit, self.ties)

    def is_open(self, lit, lamp):
        """True if the lamp may be pressed at the light of this mask."""
        return (self.crossing(lit) >> lamp) & 1 == 1


def presses_at(hall, rule, light):
    """The presses of the hall by the rule, when rule and light are as stated."""
    need_rule(rule)
    need_light(hall, light)
    return Presses(hall, rule)


def may_press(hall, rule, light, lamp):
    """True if the lamp may be pressed at the light, otherwise False."""
    presses = presses_at(hall, rule, light)
    need(is_below(hall[0], lamp), "lamp")
    return presses.is_open(mask_of(light), lamp)


def pressed(hall, rule, light, lamp):
    """The light after the lamp is pressed, which must be let."""
    need(may_press(hall, rule, light, lamp), "lamp")
    return lot_of(mask_of(light) ^ Presses(hall, rule).codes[lamp])


def lets_play(hall, rule, light, thing):
    """The light after presses of the lamps in thing, in sequence."""
    presses = presses_at(hall, rule, light)
    if not isinstance(thing, tuple):
        raise InvalidPaper("shape", -1)
    lit = mask_of(light)
    for k, lamp in enumerate(thing):
        if not is_below(hall[0], lamp):
            raise InvalidPaper("lamp", k)
        if not presses.is_open(lit, lamp):
            raise InvalidPaper("barred", k)
        lit = lit ^ presses.codes[lamp]
    return lot_of(lit)

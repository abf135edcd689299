"""Plays: presses in sequence that lead from light to light."""

from clashborn.bits import mask_of
from clashborn.lightcomings import need_other_light
from clashborn.presses import presses_at
from clashborn.toldwalks import walk_from


def play_of(hall, rule, light, other):
    """Any shortest tuple of lamps whose presses lead from light to other; None if there is none."""
    presses = presses_at(hall, rule, light)
    need_other_light(hall, other)
    walk = walk_from(presses, mask_of(light))
    goal = mask_of(other)
    while goal not in walk.came:
        if not walk.grow():
            return None
    return tuple(walk.row_to(goal))


def play_levels(hall, rule, light):
    """At k how many lights come of light by k presses and not by fewer."""
    walk = walk_from(presses_at(hall, rule, light), mask_of(light))
    walk.grow_whole()
    return tuple([len(level) for level in walk.levels])

"""Halls of lamps, and lights of them as words of a house."""

from clashborn.bits import code_of, lot_of
from clashborn.frames import Frame, pieces_from
from clashborn.kinds import is_lot
from clashborn.letters import plain_sum
from clashborn.usable import need, need_word
from clashborn.webs import is_web, near_masks, web_of


def need_rule(rule):
    """The parameter rule must be one of the two rules."""
    need(rule in ("odd", "lit"), "rule")


def need_light(hall, light):
    """The parameter light must be a lot of the lamps."""
    need(is_lot(hall[0], light), "light")


def lamp_word(hall, lamp):
    """The told word of the lamp: X at its own place, Z at the places of its neighbours below it."""
    letters = ["I"] * hall[0]
    letters[lamp] = "X"
    for one, other in hall[1]:
        if other == lamp:
            letters[one] = "Z"
    return "".join(letters)


def light_word(hall, rule, light):
    """The word of the light."""
    if rule == "odd":
        return plain_sum(hall[0], [lamp_word(hall, lamp) for lamp in light])
    return "".join(["Z" if lamp in light else "I" for lamp in range(hall[0])])


def is_hall(thing):
    """True if thing is a hall, otherwise False."""
    return is_web(thing)


def hall_of(lamps, *ties):
    """The hall with these ties, in any sequence and each either way."""
    return web_of(lamps, ties, "ties")


def parts_of(hall):
    """The tuple of the parts, each as the lot of its lamps."""
    return pieces_from(near_masks(hall))


def house_of_hall(hall):
    """The house with the told words of all lamps."""
    return (hall[0], tuple([lamp_word(hall, lamp) for lamp in range(hall[0])]))


def word_of_light(hall, rule, light):
    """The word of the light, by the rule."""
    need_rule(rule)
    need_light(hall, light)
    return light_word(hall, rule, light)


def light_of_word(hall, word):
    """The lot of the lamps whose told words clash with the word."""
    need_word(hall[0], word)
    return lot_of(Frame(house_of_hall(hall)).crossing(code_of(word)))

"""Street webs, and coins in them as words of a house."""

from clashborn.kinds import is_below, is_lot
from clashborn.letters import plain_sum
from clashborn.usable import need
from clashborn.webs import is_web, web_of


def mark_of(points, point):
    """The word of the point; those of each two points clash."""
    half = point // 2
    letter = "X" if point == 2 * half else "Y"
    return "Z" * half + letter + "I" * ((points + 1) // 2 - half - 1)


def marks_sum(points, lot):
    """The sum of the words of these points."""
    return plain_sum((points + 1) // 2, [mark_of(points, point) for point in lot])


def is_street_web(thing):
    """True if thing is a street web, otherwise False."""
    return is_web(thing)


def street_web(points, *streets):
    """The street web with these streets, in any sequence and each either way."""
    return web_of(points, streets, "streets")


def point_word(points, point):
    """The word of the point."""
    need(is_below(points, point), "point")
    return mark_of(points, point)


def coins_word(points, coins):
    """The sum of the point words of the coins."""
    need(is_lot(points, coins), "coins")
    return marks_sum(points, coins)


def house_of_streets(web):
    """The house with, for each street, the sum of the point words of its ends."""
    return ((web[0] + 1) // 2, tuple([marks_sum(web[0], street) for street in web[1]]))

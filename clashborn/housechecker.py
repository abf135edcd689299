"""The checker of houses."""

from clashborn.errors import InvalidPaper
from clashborn.kinds import house_fault


def lets_house(thing):
    """How many told words the house thing has; InvalidPaper if it is no house."""
    fault = house_fault(thing)
    if fault is not None:
        raise InvalidPaper(fault[0], fault[1])
    return len(thing[1])

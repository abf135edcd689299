"""How many lights come of a light."""

from clashborn.comingcounts import added_at
from clashborn.frames import Frame
from clashborn.halls import house_of_hall, light_word, need_light, need_rule
from clashborn.meetings import Visit
from clashborn.pieceforms import form_of
from clashborn.piececounts import power_of_two
from clashborn.staying import stay_codes


def light_count(hall, rule, light):
    """How many lights come of light by the rule, itself among them."""
    need_rule(rule)
    need_light(hall, light)
    visit = Visit(Frame(house_of_hall(hall)), light_word(hall, rule, light))
    many = 1
    # The told words of a hall are independent, so that each part counts for itself.
    for piece in visit.met_pieces:
        form = form_of(visit.frame, piece)
        ways = added_at(visit, form)
        # By "lit", words that differ by a staying word are those of one light.
        many = many * (ways if rule == "odd" else ways // power_of_two(stay_codes(visit, form)))
    return many

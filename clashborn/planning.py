"""Plans that part two rivals: some checks first, and by what they read one check more."""

from clashborn.balances import sign_balance
from clashborn.bits import code_of, crossing_all, crossing_mask, crossing_none, mask_sum, parity, swapped, word_of
from clashborn.errors import InvalidPaper
from clashborn.fixedlists import rest_check
from clashborn.kinds import is_below, is_pair, is_wide_word, is_words
from clashborn.piececounts import power_of_two
from clashborn.rivalries import need_rivals


def bits_at(many, place):
    """The list of the readings that give this place, the first one counting most."""
    return [(place >> (many - 1 - k)) & 1 for k in range(many)]


def last_pair(rivalry, rest_code, readings):
    """The last check and its reading for "word", when the first words of the crossed pairs read these readings."""
    check = rest_code
    value = 0
    for (one, other), reading in zip(rivalry.crossed_pairs, readings):
        # What is read of the first word of a pair tells whether the sum has the second one; then the value depends
        # on whether it has the first one, which the second one reads.
        has_other = reading ^ parity(one & rivalry.tilt)
        value = value ^ (has_other & rivalry.value(other))
        if rivalry.value(one) ^ has_other:
            check = check ^ other
    return (word_of(rivalry.places, check), value ^ parity(check & rivalry.tilt))


def plan_of(house, word, other):
    """Any plan for the rivals' piece that parts word and other."""
    rivalry = need_rivals(house, word, other)
    half = len(rivalry.crossed_pairs)
    rest_code = rest_check(rivalry)
    first = [word_of(house[0], pair[0]) for pair in rivalry.crossed_pairs]
    return (tuple(first), tuple([last_pair(rivalry, rest_code, bits_at(half, place)) for place in range(1 << half)]))


def values_counted(rivalry, rows, wishes):
    """How many sums that share with the rows as wished have the value 0, and how many the value 1.

    The rows are masks of the basis: of the words in it with which a check clashes.
    """
    basis = rivalry.form.basis
    found, _ = crossing_all(rows, wishes)
    if found is None:
        return [0, 0]
    free = [mask_sum(basis, mask) for mask in crossing_none(rows, len(basis))]
    many = power_of_two(free)
    balance = sign_balance(rivalry.form, free, mask_sum(basis, found), rivalry.tilt)
    return [(many + balance) // 2, (many - balance) // 2]


class PlanCheck:
    """What is needed to check the pairs of a plan: what its first checks read, as rows and of the first rival."""

    def __init__(self, rivalry, first):
        self.rivalry = rivalry
        self.swaps = [swapped(rivalry.places, code) for code in rivalry.form.basis]
        self.first_rows = [self.row_of(code_of(check)) for check in first]
        self.first_readings = [parity(code_of(check) & rivalry.tilt) for check in first]
        # Sums that clash as the first rival does lead to words that do not meet the piece.
        self.still_rows = [self.row_of(code) for code in rivalry.form.basis]
        self.still_wishes = [parity(code & rivalry.tilt) for code in rivalry.form.basis]

    def row_of(self, code):
        """The mask of the words of the basis with which the word of this code clashes."""
        return crossing_mask(code, self.swaps)

    def leads_to(self, place, check, reading, value):
        """True if something with this place comes of the rival of this value, and the check reads this of it."""
        wishes = [bit ^ own for bit, own in zip(bits_at(len(self.first_rows), place), self.first_readings)]
        rows = self.first_rows + [self.row_of(check)]
        wishes.append(reading ^ parity(check & self.rivalry.tilt))
        many = values_counted(self.rivalry, rows, wishes)[value]
        if many == 0:
            return False
        return many > values_counted(self.rivalry, rows + self.still_rows, wishes + self.still_wishes)[value]

    def is_wrong(self, place, check, reading):
        """True if a pair at this place tells "other" of what comes of word, or "word" of what comes of other."""
        return self.leads_to(place, check, 1 - reading, 0) or self.leads_to(place, check, reading, 1)


def lets_plan(house, word, other, thing):
    """How many checks are read of each word by thing, a plan for the rivals' piece that parts them."""
    rivalry = need_rivals(house, word, other)
    half = len(rivalry.crossed_pairs)
    if not is_pair(thing) or not isinstance(thing[0], tuple) or not isinstance(thing[1], tuple):
        raise InvalidPaper("shape", -1)
    first, last = thing
    if not is_words(house[0], first) or len(first) != half:
        raise InvalidPaper("first", -1)
    if len(last) != 1 << half:
        raise InvalidPaper("last", -1)
    plan_check = PlanCheck(rivalry, first)
    for k, pair in enumerate(last):
        if not is_pair(pair) or not is_wide_word(house[0], pair[0]) or not is_below(2, pair[1]):
            raise InvalidPaper("pair", k)
        if plan_check.is_wrong(k, code_of(pair[0]), pair[1]):
            raise InvalidPaper("wrong", k)
    return half + 1

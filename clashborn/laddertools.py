"""Ladders: the rows that a row is made of, ladders trimmed and joined."""

from clashborn.bits import code_of, parity, swapped
from clashborn.kindpapers import is_ladder
from clashborn.kinds import is_below
from clashborn.usable import need


def need_ladder(house, ladder):
    """The parameter ladder must be a ladder of the house."""
    need(is_ladder(house, ladder), "ladder")


def rows_by_code(codes):
    """For each code the ascending list of its rows."""
    numbers = {}
    for row, code in enumerate(codes):
        numbers.setdefault(code, []).append(row)
    return numbers


def first_pair(house, codes, numbers, row):
    """The first pair (i, j) of rows above row that clash and have its word as their sum."""
    swap = swapped(house[0], codes[row])
    for low in range(row):
        # Two words clash exactly if one of them and their sum do.
        if parity(codes[low] & swap):
            above = [high for high in numbers.get(codes[low] ^ codes[row], []) if low < high < row]
            if above != []:
                return (low, above[0])
    return ()


def used_at(house, ladder, codes, numbers, row):
    """As used_rows, with the codes of the ladder and their rows."""
    if ladder[row] in house[1]:
        return ()
    return first_pair(house, codes, numbers, row)


def used_rows(house, ladder, row):
    """() if the word of this row is told, otherwise the first pair of rows above that it is made of."""
    need_ladder(house, ladder)
    need(is_below(len(ladder), row), "row")
    codes = [code_of(word) for word in ladder]
    return used_at(house, ladder, codes, rows_by_code(codes), row)


def trimmed(house, ladder):
    """The ladder of just the rows that the last row needs."""
    need_ladder(house, ladder)
    codes = [code_of(word) for word in ladder]
    numbers = rows_by_code(codes)
    needed = {len(ladder) - 1: True}
    for row in list(range(len(ladder)))[::-1]:
        if row in needed:
            for used in used_at(house, ladder, codes, numbers, row):
                needed[used] = True
    return tuple([ladder[row] for row in sorted(needed)])


def rows_joined(ladder, other):
    """All rows of ladder, then those of other that are not among them, each once."""
    rows = list(ladder)
    known = {word: True for word in ladder}
    for word in other:
        if word not in known:
            known[word] = True
            rows.append(word)
    return tuple(rows)


def ladders_joined(house, ladder, other):
    """All rows of ladder, then those words of the ladder other that are no rows of ladder, each once."""
    need_ladder(house, ladder)
    need(is_ladder(house, other), "other")
    return rows_joined(ladder, other)

"""Words and lots as whole numbers, and sums of them in twos.

A letter takes two bits and a thing of a lot takes one, so that adding is one exclusive or.
"""

CODES = {"I": 0, "X": 1, "Z": 2, "Y": 3}
LETTERS = "IXZY"


def code_of(word):
    """The word as a number, its last letter in the lowest two bits."""
    code = 0
    for letter in word:
        code = code * 4 + CODES[letter]
    return code


def word_of(places, code):
    """The word with so many letters that has this code."""
    letters = [LETTERS[(code >> (2 * k)) & 3] for k in range(places)]
    return "".join(letters[::-1])


def swapped(places, code):
    """The code with X and Z exchanged: two words clash if one and the other swapped share an odd number of bits."""
    low_bits = ((1 << (2 * places)) - 1) // 3
    return ((code & low_bits) << 1) | ((code >> 1) & low_bits)


def parity(bits):
    """1 if an odd number of bits are set, otherwise 0."""
    many = bits.bit_length()
    while many > 1:
        half = (many + 1) // 2
        bits = (bits >> half) ^ (bits & ((1 << half) - 1))
        many = half
    return bits


def mask_of(lot):
    """The lot as a number with just the bits set that the lot names."""
    mask = 0
    for k in lot:
        mask = mask ^ (1 << k)
    return mask


def lot_of(mask):
    """The ascending tuple of the bits that are set."""
    return tuple([k for k in range(mask.bit_length()) if (mask >> k) & 1])


def mask_sum(codes, mask):
    """The codes at the bits of the mask, added."""
    total = 0
    for k in lot_of(mask):
        total = total ^ codes[k]
    return total


def crossing_mask(code, swaps):
    """The mask of the swapped codes that clash with the code."""
    return mask_of([k for k, swap in enumerate(swaps) if parity(code & swap)])


def reduced(rows, code):
    """What is left of the code when rows are added from the top bit on, and the mask of what was added."""
    left = code
    mask = 0
    while left.bit_length() in rows:
        row, lot = rows[left.bit_length()]
        left = left ^ row
        mask = mask ^ lot
    return left, mask


def span_of(codes):
    """Rows by their top bit, each with the mask of codes that it sums, the firsts, and a basis of masks with sum 0.

    The firsts are the places of the codes that are no sums of the codes before them.
    """
    rows = {}
    firsts = []
    relations = []
    for k, code in enumerate(codes):
        left, mask = reduced(rows, code)
        mask = mask ^ (1 << k)
        if left:
            rows[left.bit_length()] = (left, mask)
            firsts.append(k)
        else:
            relations.append(mask)
    return rows, firsts, relations


def lot_with_sum(codes, code):
    """A mask of the codes that add up to this code, or None."""
    left, mask = reduced(span_of(codes)[0], code)
    if left:
        return None
    return mask


def crossing_all(codes, wishes):
    """A pair (found, mask), just one of them not None.

    Found shares an odd number of bits with just those codes that have the wish 1;
    the mask is of codes that add up to 0, an odd number of them with the wish 1.
    """
    # The wish is the lowest bit of each row, so that a row which is 1 alone shows a sum that contradicts.
    rows = span_of([code * 2 + wish for code, wish in zip(codes, wishes)])[0]
    if 1 in rows:
        return None, rows[1][1]
    found = 0
    for top in sorted(rows):
        row = rows[top][0]
        if parity(found & (row >> 1)) != row & 1:
            found = found ^ (1 << (top - 2))
    return found, None


def crossing_none(codes, width):
    """A basis of all numbers with so many bits that share an even number of bits with each code."""
    rows = span_of(codes)[0]
    tops = sorted(rows)
    basis = []
    for free in range(width):
        if free + 1 not in rows:
            found = 1 << free
            for top in tops:
                if parity(found & rows[top][0]):
                    found = found ^ (1 << (top - 1))
            basis.append(found)
    return basis

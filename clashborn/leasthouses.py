"""Houses that make the same words with the fewest told words."""

from clashborn.bits import crossing_mask, reduced, span_of, swapped, word_of
from clashborn.comparing import makes_same
from clashborn.errors import InvalidPaper
from clashborn.frames import Frame
from clashborn.kinds import is_house
from clashborn.pairwalks import WAYS
from clashborn.pieceforms import form_of, ring_sums
from clashborn.pointtrees import root_paths, tree_places
from clashborn.signs import sign_by, sign_found
from clashborn.sixes import six_codes


def forms_in(frame):
    """The forms of all pieces, in sequence."""
    return [form_of(frame, piece) for piece in range(len(frame.pieces))]


def least_size(form):
    """The fewest told words of a piece that makes the same words as this one."""
    # As many independent words as it has dimensions have neither an odd relation nor a whole one.
    if form.kind == "loose" or (form.is_large() and form.whole is not None):
        return len(form.basis) + 1
    return len(form.basis)


def on_three_points(pairs):
    """Pairs of at most four points as pairs of three points, one for each way to part four into pairs."""
    ways = [[pair in way for way in WAYS].index(True) for pair in pairs]
    return [((0, 1), (0, 2), (1, 2))[way] for way in ways]


def least_paired(form):
    """The codes of the least words of a paired piece: a tree, and pairs whose rings have sums of their own."""
    # By four points, a sum of two pairs may be blank without a ring; by three points none is.
    pairs = form.pairs if form.points > 4 else on_three_points(form.pairs)
    places = list(tree_places(root_paths(pairs))) + span_of(ring_sums(pairs, form.codes))[1]
    return [form.codes[at] for at in sorted(places)]


def least_strict(frame, form):
    """The codes of independent words made of the piece, a six among them, that hang together and have all its sums."""
    chosen = six_codes(frame, form.piece)
    fresh = form.codes
    while fresh != []:
        rows = span_of(chosen)[0]
        swaps = [swapped(frame.places, code) for code in chosen]
        fresh = [code for code in form.codes if reduced(rows, code)[0] and crossing_mask(code, swaps)]
        chosen.extend(fresh[:1])
    return chosen


def least_loose(frame, form):
    """The codes of least_strict, and of a told word of the piece that they do not make by themselves."""
    chosen = least_strict(frame, form)
    words = [word_of(frame.places, code) for code in chosen]
    sign = sign_found((frame.places, words), tuple(range(len(words))))
    # Not all told words have the sign 1, as the piece has no sign word.
    wrong = [told for told in form.lot if sign_by(sign, frame.told_words[told]) == 0]
    return chosen + [frame.codes[wrong[0]]]


def least_codes(frame, form):
    """The codes of the least words that make what the piece makes."""
    if form.kind == "lone":
        return form.codes
    if form.kind == "paired":
        return least_paired(form)
    return least_strict(frame, form) if form.kind == "strict" else least_loose(frame, form)


def fewest_told(house):
    """The fewest told words of a house on as many places that makes the same words."""
    return sum([least_size(form) for form in forms_in(Frame(house))])


def least_house(house):
    """Any house on as many places that makes the same words and has fewest_told(house) told words."""
    frame = Frame(house)
    codes = [code for form in forms_in(frame) for code in least_codes(frame, form)]
    return (house[0], tuple([word_of(house[0], code) for code in codes]))


def lets_least(house, thing):
    """How many told words thing has, a house that makes the same words with as few as can be."""
    if not is_house(thing) or thing[0] != house[0]:
        raise InvalidPaper("house", -1)
    if not makes_same(thing, house):
        raise InvalidPaper("same", -1)
    if len(thing[1]) > fewest_told(house):
        raise InvalidPaper("many", -1)
    return len(thing[1])


def all_house(places):
    """Any house on so many places that makes all words but the blank one, with as few told words as can be."""
    words = []
    for at in range(places):
        ahead = "I" * (at - 1) + "X" if at else ""
        behind = "I" * (places - at - 1)
        words.extend([ahead + "X" + behind, "I" * at + "Z" + behind])
    # The row of these words alone makes the pairs of its points; one word more breaks all its pairings, or, on two
    # places, is a pair of a whole relation.
    if places == 2:
        words.append("IX")
    elif places > 2:
        words.append("IZZ" + "I" * (places - 3))
    return (places, tuple(words))

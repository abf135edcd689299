"""Plain reference answers, straight from the definitions, for the tests to hold the program against."""

import itertools
import random

THIRD = {("X", "Y"): "Z", ("Y", "X"): "Z", ("X", "Z"): "Y", ("Z", "X"): "Y", ("Y", "Z"): "X", ("Z", "Y"): "X"}

LINE = (2, ("XI", "ZZ", "IX"))
TRIO = (1, ("X", "Y", "Z"))
FIVE = (2, ("XI", "ZZ", "IX", "IZ", "XX"))
SIX = (3, ("XII", "ZII", "XXI", "IZI", "IXX", "IZZ"))
MORE = (3, ("XII", "ZII", "XXI", "IZI", "IXX", "IZZ", "IIZ"))
BOTH = (2, ("XI", "IZ", "ZI"))
DUO = (2, ("XI", "ZI", "IX"))
ROW = (3, ("XII", "ZII", "XXI", "IZI", "IXX"))
LONG = (4, ("XIII", "ZIII", "XXII", "IZII", "IXXI", "IZZI", "IIZZ"))
NAMED = (LINE, TRIO, FIVE, SIX, MORE, BOTH, DUO, ROW, LONG)


def letter_sum(one, other):
    if one == other:
        return "I"
    if one == "I":
        return other
    if other == "I":
        return one
    return THIRD[(one, other)]


def plus(one, other):
    return "".join(letter_sum(a, b) for a, b in zip(one, other))


def total(places, words):
    found = "I" * places
    for word in words:
        found = plus(found, word)
    return found


def clash(one, other):
    return sum(a != b and "I" not in (a, b) for a, b in zip(one, other)) % 2 == 1


def lot_total(house, lot):
    return total(house[0], [house[1][k] for k in lot])


def all_words(places):
    return ["".join(letters) for letters in itertools.product("IXYZ", repeat=places)]


def lots_below(many):
    return [lot for size in range(many + 1) for lot in itertools.combinations(range(many), size)]


def lots_of(things):
    return [lot for size in range(len(things) + 1) for lot in itertools.combinations(things, size)]


def merged(*lots):
    found = set()
    for lot in lots:
        found ^= set(lot)
    return tuple(sorted(found))


def sums(places, words):
    found = {"I" * places}
    for word in words:
        found |= {plus(word, other) for other in found}
    return found


def dimension(places, words):
    return len(sums(places, words)).bit_length() - 1


def is_basis(places, words, wanted):
    """True if words is a tuple of independent words with exactly the wanted words as its sums."""
    found = sums(places, words)
    return isinstance(words, tuple) and 2 ** len(words) == len(found) and found == set(wanted)


def lots_independent(lots):
    """True if no lot of the lots but () adds up to ()."""
    found = {()}
    for lot in lots:
        more = {merged(lot, other) for other in found}
        if more & found:
            return False
        found |= more
    return True


def lots_spanned(lots):
    found = {()}
    for lot in lots:
        found |= {merged(lot, other) for other in found}
    return found


def odd(house, lot):
    words = [house[1][k] for k in lot]
    return (len(words) + sum(clash(a, b) for a, b in itertools.combinations(words, 2))) % 2 == 1


def relations(house, lot=None):
    things = range(len(house[1])) if lot is None else lot
    return [part for part in lots_of(things) if lot_total(house, part) == "I" * house[0]]


def pieces(house):
    left = list(range(len(house[1])))
    found = []
    while left:
        lot = {left.pop(0)}
        grown = True
        while grown:
            fresh = [k for k in left if any(clash(house[1][k], house[1][j]) for j in lot)]
            lot |= set(fresh)
            left = [k for k in left if k not in lot]
            grown = bool(fresh)
        found.append(tuple(sorted(lot)))
    return tuple(found)


def met(house, word):
    return tuple(k for k, lot in enumerate(pieces(house)) if any(clash(word, house[1][j]) for j in lot))


def made_words(house):
    """Plain gathering: sums of two made words that clash, until there are no new ones."""
    found = set(house[1])
    edge = list(house[1])
    while edge:
        word = edge.pop()
        for other in list(found):
            if clash(word, other):
                fresh = plus(word, other)
                if fresh not in found:
                    found.add(fresh)
                    edge.append(fresh)
    return found


def walked(house, word):
    """Plain walking by told words."""
    found = {word}
    edge = [word]
    while edge:
        here = edge.pop()
        for by in house[1]:
            if clash(here, by):
                there = plus(here, by)
                if there not in found:
                    found.add(there)
                    edge.append(there)
    return found


def is_pairing(house, lot, thing):
    if type(thing) is not tuple or len(thing) != len(lot):
        return False
    for pair in thing:
        if type(pair) is not tuple or len(pair) != 2:
            return False
        if any(type(point) is not int or point < 0 for point in pair) or pair[0] >= pair[1]:
            return False
    points = {point for pair in thing for point in pair}
    if points != set(range(len(points))):
        return False
    return all(
        clash(house[1][lot[i]], house[1][lot[j]]) == (len(set(thing[i]) & set(thing[j])) == 1)
        for i in range(len(lot)) for j in range(i)
    )


def numbered_pairings(house, lot):
    """The pairings of a piece whose points are numbered as they come up, one by one, by plain trial."""

    def grow(pairs, points):
        if len(pairs) == len(lot):
            if is_pairing(house, lot, tuple(pairs)):
                yield tuple(pairs)
            return
        for pair in itertools.combinations(range(len(points) + 2), 2):
            if all(
                clash(house[1][lot[len(pairs)]], house[1][lot[j]]) == (len(set(pair) & set(pairs[j])) == 1)
                for j in range(len(pairs))
            ):
                # A new point is the least unused one, but for renumbering at the end nothing is lost.
                used = set(points) | set(pair)
                if max(used) < len(used):
                    yield from grow(pairs + [pair], used)

    yield from grow([], set())


def has_pairing(house, lot):
    return any(True for _ in numbered_pairings(house, lot))


def pairings(house, lot):
    """All pairings of a small piece, by plain trial."""
    return [
        renamed for pairs in numbered_pairings(house, lot)
        for order in itertools.permutations(range(len({p for pair in pairs for p in pair})))
        for renamed in [tuple(tuple(sorted((order[a], order[b]))) for a, b in pairs)]
    ]


def ends(pairs, places):
    return merged(*[pairs[k] for k in places])


def coins(house, lot, pairs, word):
    """The coins by the definition, or None."""
    points = sorted({point for pair in pairs for point in pair})
    fitting = [
        side for side in lots_of(points)
        if all(clash(word, house[1][told]) == (len(set(side) & set(pair)) == 1) for told, pair in zip(lot, pairs))
    ]
    if not fitting:
        return None
    fewest = min(len(side) for side in fitting)
    least = [side for side in fitting if len(side) == fewest]
    if len(least) == 2:
        return [side for side in least if 0 in side][0]
    return least[0]


def random_word(chance, places):
    return "".join(chance.choice("IXYZ") for _ in range(places))


def random_house(chance, places, many):
    """A house with up to so many told words, now a loose heap, now one that hangs together."""
    words = []
    for _ in range(many * 20):
        if len(words) == many:
            break
        word = random_word(chance, places)
        if chance.random() < 0.4:
            word = "".join(letter if chance.random() < 0.5 else "I" for letter in word)
        if set(word) != {"I"} and word not in words:
            words.append(word)
    return (places, tuple(words))


def paired_house(chance, points, many):
    """A house of one paired piece: words for pairs of points, told in any sequence, joined along a tree."""
    places = points + 2
    point_words = []
    for point in range(points):
        # Each two point words clash, so that words of pairs clash exactly if they share one point.
        half, rest = divmod(point, 2)
        point_words.append("Z" * half + "XY"[rest] + "I" * (places - half - 1))
    pairs = [(chance.randrange(point), point) for point in range(1, points)]
    words = {}
    for pair in pairs:
        words[plus(point_words[pair[0]], point_words[pair[1]])] = pair
    while len(words) < many:
        low, high = sorted(chance.sample(range(points), 2))
        extra = "I" * (places - 2) + chance.choice(["II", "XI", "IX", "XX"])
        words[plus(plus(point_words[low], point_words[high]), extra)] = (low, high)
    order = list(words)
    chance.shuffle(order)
    return (places, tuple(order))


def chance_of(seed):
    return random.Random(seed)


def ringed_house(chance, points, many):
    """A paired house with one word more that clashes with the one, but not with the other of two like pairs."""
    places, words = paired_house(chance, points, many)
    low, high = words[:2]
    marked = [word[:-2] + "XI" if word[:-2] == low[:-2] else word for word in words]
    twin = low[:-2] + "IX"
    extra = "I" * (places - 2) + "IZ"
    fresh = [word for word in (twin, extra) if word not in marked]
    told = marked[:1] + fresh[:1] + [word for word in marked[1:] if word not in fresh] + fresh[1:]
    return (places, tuple(dict.fromkeys(told)))


def parted_house(chance, points, side, tail):
    """A paired house with one word more, told at any place, that clashes with just the pairs with one point in side."""
    places, words = paired_house(chance, points, points - 1)
    marks = ["Z" * (point // 2) + "XY"[point % 2] + "I" * (places - point // 2 - 1) for point in range(points)]
    fresh = plus(total(places, [marks[point] for point in side]), "I" * (places - 2) + tail)
    told = list(words)
    told.insert(chance.randrange(points), fresh)
    return (places, tuple(told))


def six_house(chance, many):
    """A house of one piece without a pairing, on few places if many is small."""
    places = 3 if many < 12 else 8
    words = [word + "I" * (places - 3) for word in SIX[1]]
    while len(words) < many:
        word = plus(random_word(chance, places), "I" * places)
        if set(word) != {"I"} and word not in words and any(clash(word, other) for other in words):
            words.append(word)
    chance.shuffle(words)
    return (places, tuple(words))


def is_six(words):
    ties = {(0, 1), (1, 2), (2, 3), (3, 4), (2, 5)}
    return len(words) == 6 and all(
        clash(words[i], words[j]) == ((i, j) in ties) for i, j in itertools.combinations(range(6), 2)
    )


def is_ladder(house, rows):
    return len(rows) > 0 and all(
        row in house[1] or any(clash(a, b) and plus(a, b) == row for a, b in itertools.combinations(rows[:k], 2))
        for k, row in enumerate(rows)
    )


def sign(by, word):
    return int((word.count("Y") % 2 == 1) != clash(by, word))


def kind(house, lot):
    """The kind of a piece: by trial of pairings if it is small, and of relations."""
    if len(lot) == 1:
        return "lone"
    if has_pairing(house, lot):
        return "paired"
    return "loose" if any(odd(house, part) for part in relations(house, lot)) else "strict"


def coined(house, lot, word):
    """(pairs, coins) if the piece is coined by the word, by one pairing with at least six points; else None."""
    if len(lot) < 5:
        return None
    found = pairings_once(house, lot)
    if found is None or len({point for pair in found for point in pair}) < 6:
        return None
    fitting = coins(house, lot, found, word)
    return None if fitting is None else (found, fitting)


PAIRINGS = {}


def pairings_once(house, lot):
    """One pairing of the piece by plain trial, or None; kept, as trial takes its time."""
    words = tuple(house[1][k] for k in lot)
    if words not in PAIRINGS:
        PAIRINGS[words] = next(numbered_pairings(house, lot), None)
    return PAIRINGS[words]


def meeting(house, word, lot):
    if not any(clash(word, house[1][k]) for k in lot):
        return "unmet"
    if len(lot) == 1:
        return "lone"
    return "swept" if coined(house, lot, word) is None else "coined"


def side(house, word, part, lot):
    """side_of for the lot part in the met piece lot, as the document tells it."""
    way = meeting(house, word, lot)
    within = tuple(k for k in part if k in lot)
    if way == "lone":
        return 0
    if way == "swept":
        is_odd = odd(house, within)
        clashing = clash(lot_total(house, within), word)
        return 0 if is_odd == clashing else 1
    pairs, have = coined(house, lot, word)
    points = len({point for pair in pairs for point in pair})
    after = len(merged(have, ends(pairs, [lot.index(k) for k in within])))
    if after == len(have):
        return 0
    return 1 if 2 * len(have) != points and after == points - len(have) else None


def shift(house, word, relation, lot):
    """shift_of for a relation in the met piece lot, as the document tells it."""
    way = meeting(house, word, lot)
    within = tuple(k for k in relation if k in lot)
    if way == "lone":
        return 0
    if way == "swept":
        return int(odd(house, within) != clash(lot_total(house, within), word))
    pairs, have = coined(house, lot, word)
    points = len({point for pair in pairs for point in pair})
    if 2 * len(have) == points:
        return 0
    return int(len(ends(pairs, [lot.index(k) for k in within])) == points)


def steps(house, word, by):
    """For each word that turns by these words lead to how many turns do so at least, by plain walking."""
    found = {word: 0}
    edge = [word]
    while edge:
        fresh = []
        for here in edge:
            for turn in by:
                if clash(here, turn):
                    there = plus(here, turn)
                    if there not in found:
                        found[there] = found[here] + 1
                        fresh.append(there)
        edge = fresh
    return found


def counted(found):
    """How many values of the dict are 0, 1 and so on, up to the greatest one."""
    return tuple(list(found.values()).count(k) for k in range(max(found.values()) + 1))


def sharing(house, numbers):
    """The first of these pieces at which they share, or None, by plain gathering of sums."""
    lots = pieces(house)
    for k, number in enumerate(numbers):
        own = sums(house[0], [house[1][told] for told in lots[number]])
        before = sums(house[0], [house[1][told] for other in numbers[:k] for told in lots[other]])
        if len(own & before) > 1:
            return number
    return None


def whole_house(chance, half, more=0, tail=0, tails=0.5):
    """A paired piece of 2 * half + 2 points: all of them whole without a tail, and rings where tails differ."""
    row = []
    for k in range(half):
        row.append("I" * k + "X" + "I" * (half - k - 1))
        row.append("I" * k + "ZZ" + "I" * (half - k - 2) if k < half - 1 else "I" * k + "Z")
    row.append("X" * half)
    heads = list(row)
    for _ in range(more):
        low, high = sorted(chance.sample(range(2 * half + 2), 2))
        heads.append(total(half, row[low:high]))
    words = []
    for head in heads:
        word = head + "".join(chance.choice("IX") if chance.random() < tails else "I" for _ in range(tail))
        if word not in words and set(word) != {"I"}:
            words.append(word)
    chance.shuffle(words)
    return (half + tail, tuple(words))


def beside(house, other):
    """Both houses as one, on places of their own."""
    words = [word + "I" * other[0] for word in house[1]] + ["I" * house[0] + word for word in other[1]]
    return (house[0] + other[0], tuple(words))


def alone(house, piece):
    """The house with the words of the piece alone."""
    return (house[0], tuple(house[1][told] for told in pieces(house)[piece]))


# Two pieces of three words that share IIZZ, and three lone ones of which the third one is the sum of the others.
SHARED = (4, ("XIII", "ZIII", "YIXI", "IXII", "IZII", "IYXI"))
LONES = (3, ("XII", "IXI", "XXI"))
# A whole relation on six points.
WHOLE = (3, ("XII", "ZII", "XXI", "IZI", "IXX", "XXX"))


def small_houses(seed):
    """Houses with pieces of all sorts, on places so few that plain walking and gathering are quick."""
    chance = chance_of(seed)
    found = list(NAMED) + [SHARED, LONES, WHOLE, (1, ()), (2, ())]
    found += [random_house(chance, places, many) for places in (1, 2, 2, 3, 3, 4) for many in (1, 2, 3, 5, 7)]
    found += [six_house(chance, many) for many in (6, 7, 8, 9)]
    found += [whole_house(chance, half, more, tail) for half, more, tail in (
        (2, 0, 0), (2, 1, 1), (2, 2, 2), (2, 3, 2), (3, 0, 0), (3, 1, 1), (3, 2, 1))]
    # Paired pieces of three to five points, with and without rings.
    for many in (2, 3, 4):
        chain = ("XIII", "ZZII", "IXII", "IZZI")[:many]
        found += [(4, chain), (4, chain + tuple(word[:3] + "X" for word in chain[:2]))]
    # A strict and a loose piece with a rest of two words, of the strict one both with the sign 0.
    found += [(4, tuple(word + "I" for word in house[1]) + ("XIIX",)) for house in (SIX, MORE)]
    # A strict piece with a basis in two parts that just its last word holds together.
    found.append((4, tuple(word + "I" for word in SIX[1]) + ("IIIX", "IIIZ", "IIZX")))
    found += [beside(LINE, TRIO), beside(SIX, LINE)]
    found.append(beside((1, ("X",)), (3, ("XII", "ZII", "YXI"))))
    return found

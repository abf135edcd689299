"""Whether a value is of a kind: integers, words, lots, houses and their like."""


def is_integer(thing):
    """True if thing is an int and no bool."""
    return isinstance(thing, int) and not isinstance(thing, bool)


def is_number(thing):
    """True if thing is an integer of at least 0."""
    return is_integer(thing) and thing >= 0


def is_word(thing):
    """True if thing is a string of at least one letter, each I, X, Y or Z."""
    return isinstance(thing, str) and len(thing) > 0 and all([letter in "IXYZ" for letter in thing])


def is_wide_word(places, thing):
    """True if thing is a word with so many letters."""
    return is_word(thing) and len(thing) == places


def is_words(places, thing):
    """True if thing is a tuple of words with so many letters."""
    return isinstance(thing, tuple) and all([is_wide_word(places, word) for word in thing])


def is_blank(word):
    """True if the word has I at each place."""
    return word == "I" * len(word)


def is_rising(thing):
    """True if thing is a tuple of numbers, each greater than the one before it."""
    if not isinstance(thing, tuple) or not all([is_number(entry) for entry in thing]):
        return False
    return all([thing[k - 1] < thing[k] for k in range(1, len(thing))])


def is_lot(many, thing):
    """True if thing is a lot of so many things."""
    return is_rising(thing) and (thing == () or thing[-1] < many)


def is_below(many, thing):
    """True if thing is a number below many."""
    return is_number(thing) and thing < many


def is_numbers_below(many, thing):
    """True if thing is a tuple of numbers below many, in any sequence."""
    return isinstance(thing, tuple) and all([is_below(many, entry) for entry in thing])


def is_order(many, thing):
    """True if thing is a tuple of all numbers below many, each once."""
    return is_numbers_below(many, thing) and sorted(thing) == list(range(many))


def is_pair(thing):
    """True if thing is a tuple of two."""
    return isinstance(thing, tuple) and len(thing) == 2


def is_number_pair(thing):
    """True if thing is a pair of unlike numbers, the lesser first."""
    return is_pair(thing) and is_rising(thing)


def starts_with(word, thing):
    """True if thing is a tuple with this string as its first entry."""
    return isinstance(thing, tuple) and len(thing) > 0 and thing[0] == word


def words_fault(places, words):
    """What keeps words from being told words on so many places, as (entry, place), or None."""
    seen = {}
    for k, word in enumerate(words):
        if not is_wide_word(places, word):
            return ("word", k)
        if is_blank(word):
            return ("blank", k)
        if word in seen:
            return ("again", k)
        seen[word] = True
    return None


def house_fault(thing):
    """What keeps thing from being a house, as (entry, place), or None."""
    if not is_pair(thing):
        return ("shape", -1)
    places, words = thing
    if not is_integer(places) or places < 1:
        return ("places", -1)
    if not isinstance(words, tuple):
        return ("words", -1)
    return words_fault(places, words)


def is_house(thing):
    """True if thing is a house."""
    return house_fault(thing) is None

"""Words and houses as lines of text."""


def short_line(word):
    """The letters that are not I, each with its place; "-" for a blank word."""
    fields = [f"{letter}{k}" for k, letter in enumerate(word) if letter != "I"]
    if fields == []:
        return "-"
    return " ".join(fields)


def house_line(house):
    """The number of places and ";", then the told words, parted by blanks."""
    return " ".join([f"{house[0]};"] + list(house[1]))

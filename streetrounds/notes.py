"""Towns as texts."""

from streetrounds.checks import check_town
from streetrounds.errors import BadText

# The signs of a two-way and of a one-way street, by the last field of the street.
SIGNS = ("=", ">")
FIGURES = "0123456789"
MOST_FIGURES = 2


def written(town):
    """Tell the town as a text."""
    check_town(town)
    corners, streets = town
    rows = [f"town {corners}"]
    for begin, end, long, one_way in streets:
        rows.append(f"{begin} {SIGNS[one_way]} {end} {long}")
    return "\n".join(rows)


def read(text):
    """Tell the town that the text tells of."""
    if not isinstance(text, str):
        raise BadText(0)
    first, *others = text.split("\n")
    corners = corners_in(first)
    if corners is None:
        raise BadText(0)
    streets = []
    for row, line in enumerate(others, start=1):
        street = street_in(line)
        if street is None:
            raise BadText(row)
        streets.append(street)
    town = (corners, tuple(streets))
    check_town(town)
    return town


def corners_in(line):
    """Tell how many corners a first row tells, None if it's no such row."""
    words = line.split(" ")
    if len(words) != 2 or words[0] != "town" or not is_number(words[1]):
        return None
    return int(words[1])


def street_in(line):
    """Tell the street that a row tells, None if it's no such row."""
    words = line.split(" ")
    if len(words) != 4:
        return None
    begin, sign, end, long = words
    if sign not in SIGNS or not is_number(begin) or not is_number(end) or not is_number(long):
        return None
    return int(begin), int(end), int(long), SIGNS.index(sign)


def is_number(word):
    """Tell whether the word is a number of one or two figures, none needless."""
    if not 1 <= len(word) <= MOST_FIGURES or any(sign not in FIGURES for sign in word):
        return False
    return len(word) == 1 or word[0] != "0"

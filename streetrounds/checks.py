"""Which numbers, corners, streets, towns and times can be."""

from streetrounds.errors import BadTimes, BadTown, NoCorner

MOST_CORNERS = 9
MOST_STREETS = 16
MOST_LONG = 99
MOST_OFTEN = 99


def is_whole(thing, low, high):
    """Tell whether thing is a whole number from low to high."""
    # To Python, True and False are integers; here they are no numbers.
    if isinstance(thing, bool) or not isinstance(thing, int):
        return False
    return low <= thing <= high


def is_corner(thing, corners):
    """Tell whether thing is one of so many corners."""
    return is_whole(thing, 0, corners - 1)


def is_street(thing, corners):
    """Tell whether thing is a street between two of so many corners."""
    if not isinstance(thing, tuple) or len(thing) != 4:
        return False
    begin, end, long, one_way = thing
    if not is_corner(begin, corners) or not is_corner(end, corners):
        return False
    return begin != end and is_whole(long, 1, MOST_LONG) and is_whole(one_way, 0, 1)


def check_town(town):
    """Refuse what is no town by BadTown, with the number of what can't be."""
    if not isinstance(town, tuple) or len(town) != 2:
        raise BadTown(-1)
    corners, streets = town
    if not is_whole(corners, 1, MOST_CORNERS):
        raise BadTown(-1)
    if not isinstance(streets, tuple):
        raise BadTown(0)
    for number, street in enumerate(streets):
        if number >= MOST_STREETS or not is_street(street, corners):
            raise BadTown(number)


def check_corner(thing, corners):
    """Refuse what is none of so many corners by NoCorner."""
    if not is_corner(thing, corners):
        raise NoCorner("no corner of this town")


def is_pair_of_times(thing, one_way):
    """Tell whether thing is how often a street can be gone (forth, back)."""
    if not isinstance(thing, tuple) or len(thing) != 2:
        return False
    forth, back = thing
    most_back = 0 if one_way == 1 else MOST_OFTEN
    return is_whole(forth, 0, MOST_OFTEN) and is_whole(back, 0, most_back)


def check_times(thing, streets):
    """Refuse what are no times of these streets by BadTimes, with the number of the first."""
    if not isinstance(thing, tuple):
        raise BadTimes(0)
    for number, (_, _, _, one_way) in enumerate(streets):
        if number >= len(thing) or not is_pair_of_times(thing[number], one_way):
            raise BadTimes(number)
    if len(thing) > len(streets):
        raise BadTimes(len(streets))

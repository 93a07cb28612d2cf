"""A desk that builds, closes and lays streets of a town."""

from streetrounds.checks import check_town, is_whole
from streetrounds.errors import BadDeed, Halted, NoRound, NoStreet, StreetError
from streetrounds.rounds import check_two_way, least

# How many things a deed of each word has, its word among them.
DEEDS = {"build": 2, "close": 2, "lay": 3}


class Desk:
    """A town whose streets change by deeds, alone or by batches."""

    def __init__(self, town):
        check_town(town)
        corners, streets = town
        check_two_way(streets)
        self._corners = corners
        self._streets = streets
        self._words = []
        self._is_busy = False

    def town(self):
        """Tell the town as it stands."""
        return self._corners, self._streets

    def long(self):
        """Tell how long a least round is, None if there's none."""
        try:
            told, _ = least(self.town())
        except NoRound:
            return None
        return told

    def build(self, street):
        """Put a street behind all, and tell how long a least round is then."""
        return self._put(len(self._streets), street)

    def close(self, number):
        """Take a street out, and tell how long a least round is then."""
        check_number(number, self._streets)
        self._streets = self._streets[:number] + self._streets[number + 1:]
        return self.long()

    def lay(self, number, street):
        """Make a street another one, and tell how long a least round is then."""
        check_number(number, self._streets)
        return self._put(number, street)

    def batch(self, deeds, *, keep=True):
        """Do the deeds in turn, and tell a list of what each told."""
        check_deeds(deeds)
        ahead = self._streets
        told = []
        self._is_busy = True
        self._words.append("begun")
        try:
            for deed in deeds:
                told.append(self._do(deed))
                self._words.append(deed[0])
        except StreetError as why:
            if keep is True:
                raise Halted(len(told), len(told)) from why
            self._streets = ahead
            raise Halted(len(told), 0) from why
        finally:
            self._words.append("ended")
            self._is_busy = False
        return told

    def book(self):
        """Tell of each batch "begun", the word of each deed that was done, and "ended"."""
        return list(self._words)

    def is_idle(self):
        """Tell whether no batch is under way."""
        return not self._is_busy

    def _put(self, number, street):
        """Put the street at the place number, and tell how long a least round is then."""
        streets = self._streets[:number] + (street,) + self._streets[number + 1:]
        check_town((self._corners, streets))
        check_two_way(streets)
        self._streets = streets
        return self.long()

    def _do(self, deed):
        """Do a deed, and tell what it tells."""
        if deed[0] == "build":
            return self.build(deed[1])
        if deed[0] == "close":
            return self.close(deed[1])
        return self.lay(deed[1], deed[2])


def check_number(thing, streets):
    """Refuse what is the number of none of these streets by NoStreet."""
    if not is_whole(thing, 0, len(streets) - 1):
        raise NoStreet("no street has this number")


def is_deed(thing):
    """Tell whether thing is a tuple of a deed's word and so many things as it needs."""
    if not isinstance(thing, tuple) or not thing or not isinstance(thing[0], str):
        return False
    return DEEDS.get(thing[0]) == len(thing)


def check_deeds(thing):
    """Refuse what is no list of deeds by BadDeed, with the number of the first that is none."""
    if not isinstance(thing, list):
        raise BadDeed(0)
    for number, deed in enumerate(thing):
        if not is_deed(deed):
            raise BadDeed(number)

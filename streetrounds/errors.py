"""What the program refuses: a class of its own for each kind of refusal."""


class StreetError(ValueError):
    """Any refusal."""


class BadTown(StreetError):
    """No town: number is the first street that can't be, -1 for the town itself."""

    def __init__(self, number):
        super().__init__(f"no town, by its place {number}")
        self.number = number


class BadTimes(StreetError):
    """No times: number is the first street whose times can't be."""

    def __init__(self, number):
        super().__init__(f"no times, by their place {number}")
        self.number = number


class NotOneWay(StreetError):
    """A two-way street where there may be none: number is the first."""

    def __init__(self, number):
        super().__init__(f"street {number} is two-way")
        self.number = number


class BadDeed(StreetError):
    """No deeds: number is the first that can't be."""

    def __init__(self, number):
        super().__init__(f"no deed at place {number}")
        self.number = number


class Halted(StreetError):
    """A batch that was halted: number is the deed refused, done how many stand."""

    def __init__(self, number, done):
        super().__init__(f"halted at deed {number}, {done} stand")
        self.number = number
        self.done = done


class Uneven(StreetError):
    """Times with which corner is left otherwise often than it's come to."""

    def __init__(self, corner):
        super().__init__(f"corner {corner} is left otherwise often than come to")
        self.corner = corner


class BadText(StreetError):
    """No town's text: row is the first that can't be."""

    def __init__(self, row):
        super().__init__(f"no town's text, by its row {row}")
        self.row = row


class NoCorner(StreetError):
    """What is no corner of the town."""


class NoStreet(StreetError):
    """What is no street's number."""


class NoRound(StreetError):
    """A town, or what is to be gone of it, that no round can go through."""


class TooMany(StreetError):
    """More two-way streets beside one-way ones than are taken."""

"""The errors that the program raises."""


class ClimbrowError(ValueError):
    """The base class of all errors that the program raises."""


class BadHands(ClimbrowError):
    """The two hands have different lengths."""

    def __init__(self, mine_count, theirs_count):
        super().__init__(f"hands of {mine_count} and {theirs_count} cards")
        self.mine_count = mine_count
        self.theirs_count = theirs_count


class BadWord(ClimbrowError):
    """A word has a wrong letter or a wrong length."""

    def __init__(self, position):
        super().__init__(f"bad word at position {position}")
        self.position = position


class Unsteady(BadWord):
    """A word has an end part with more letters M than T."""

    def __init__(self, position):
        super().__init__(position)


class BadCard(ClimbrowError):
    """A side has no card with that index, or the card is gone."""

    def __init__(self, side, index):
        super().__init__(f"no card {index} of {side}")
        self.side = side
        self.index = index


class BadPairing(ClimbrowError):
    """A list is not a pairing."""

    def __init__(self, index):
        super().__init__(f"no pairing, seen at index {index}")
        self.index = index


class BadPlace(ClimbrowError):
    """A place or an index of a round is out of range."""

    def __init__(self, place):
        super().__init__(f"place {place} is out of range")
        self.place = place


class OutOfTurn(ClimbrowError):
    """A call is not due at this moment."""

    def __init__(self):
        super().__init__("the call is not due at this moment")


class Unreachable(ClimbrowError):
    """A wanted result is out of the range of what can be reached."""

    def __init__(self, wanted, lowest, highest):
        super().__init__(f"{wanted} is not from {lowest} to {highest}")
        self.wanted = wanted
        self.lowest = lowest
        self.highest = highest


class Contradiction(ClimbrowError):
    """No pairing agrees with a telling."""

    def __init__(self):
        super().__init__("no pairing agrees with the telling")


class BadBounds(ClimbrowError):
    """The bounds of a number do not fit."""

    def __init__(self, index):
        super().__init__(f"bad bounds at index {index}")
        self.index = index


class BadSchedule(ClimbrowError):
    """A schedule does not fit the tables."""

    def __init__(self, position):
        super().__init__(f"bad schedule at position {position}")
        self.position = position


class BadText(ClimbrowError):
    """A text is not the text of a deed."""

    def __init__(self, position):
        super().__init__(f"bad text at token {position}")
        self.position = position


class UnknownName(ClimbrowError):
    """No duel has that name."""

    def __init__(self, name):
        super().__init__(f"no duel is called {name}")
        self.name = name


class DuplicateName(ClimbrowError):
    """A duel has that name already."""

    def __init__(self, name):
        super().__init__(f"a duel is called {name} already")
        self.name = name

"""All that the program refuses with."""


class BridgeError(ValueError):
    """Any refusal."""


class BadWorld(BridgeError):
    """A world's name, or a lease, that there isn't."""


class BadLetter(BridgeError):
    """A letter's name or body, a row or a box that there isn't."""


class BadPlace(BridgeError):
    """A place, or a number of letters, that can't be read."""


class BadWays(BridgeError):
    """Ways that no bridge, net or text can have."""


class BadText(BridgeError):
    """A text that writes no ways; `row` is its first wrong row."""

    def __init__(self, row):
        super().__init__(f"row {row} writes no way")
        self.row = row


class Cut(BridgeError):
    """A call whose answer did not come."""


class Fallen(BridgeError):
    """The bridge fell."""

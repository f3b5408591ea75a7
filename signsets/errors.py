"""The refusals: what the functions of the package raise for what they cannot take."""


class SetError(ValueError):
    """Any refusal."""


class BadSize(SetError):
    """A size that is not from 1 to 64."""


class BadSet(SetError):
    """A set that cannot be: its number among those handed in, and the place of its first bad range."""

    def __init__(self, number, at):
        super().__init__(f"set {number} cannot be, from its range {at} on")
        self.number = number
        self.at = at


class BadNumber(SetError):
    """A number that nothing has."""


class BadText(SetError):
    """A text that tells no set: the place of its first item that cannot stand there."""

    def __init__(self, place):
        super().__init__(f"item {place} of the text cannot stand there")
        self.place = place

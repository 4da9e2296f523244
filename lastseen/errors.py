"""The refusals of this package."""


class SeenError(ValueError):
    """Any refusal."""


class BadRule(SeenError):
    """What was handed in is no rule."""


class BadMark(SeenError):
    """The rule has no such mark."""


class BadMoment(SeenError):
    """A moment that is out of bounds, or ahead of the one it should follow."""


class BadBounds(SeenError):
    """Bounds that no rule is looked for."""


class NoRule(SeenError):
    """No rule keeps the bounds."""


class BadThings(SeenError):
    """A board can't have so many things."""


class NoThing(SeenError):
    """The board has no such thing."""


class BadText(SeenError):
    """A text with a row, numbered from 0, that is no step."""

    def __init__(self, row):
        super().__init__(f"row {row} is no step")
        self.row = row

"""The refusals: one class each, all straight under WaterError."""


class WaterError(ValueError):
    """Any refusal."""


class NoHouse(WaterError):
    """A year or a number of places that no house has, or no house at all."""


class NoName(WaterError):
    """A name that is none, that is borne already, or that no place bears."""

    def __init__(self, place):
        WaterError.__init__(self, f"no good name (place {place})")
        self.place = place


class NoRiver(WaterError):
    """A river that leads to no later place and not to the sea, or whose delay may not be."""

    def __init__(self, place):
        WaterError.__init__(self, f"no good river (place {place})")
        self.place = place


class NoNumber(WaterError):
    """A number of a place that is below 0."""

    def __init__(self, place):
        WaterError.__init__(self, f"a number below 0 (place {place})")
        self.place = place


class NoPump(WaterError):
    """A pump that leads to no other place, or whose delay may not be."""

    def __init__(self, place):
        WaterError.__init__(self, f"no good pump (place {place})")
        self.place = place


class NoRule(WaterError):
    """A rule whose seasons or steps may not be so."""

    def __init__(self, place):
        WaterError.__init__(self, f"no good rule (place {place})")
        self.place = place


class NoText(WaterError):
    """A text that writes no rule or no house."""

    def __init__(self, row):
        WaterError.__init__(self, f"not written so (row {row})")
        self.row = row


class NoLevel(WaterError):
    """A level that a place may not have."""

    def __init__(self, place):
        WaterError.__init__(self, f"no good level (place {place})")
        self.place = place


class NoAsk(WaterError):
    """An ask that can't be asked of the house."""


class NoBounds(WaterError):
    """States or rows of floods that bound nothing."""


class TooLong(WaterError):
    """More years must be run than were allowed."""

    def __init__(self, most):
        WaterError.__init__(self, f"more than {most} years must be run")
        self.most = most


class NoWay(WaterError):
    """A node from which no arc without a bound leads."""

    def __init__(self, node):
        WaterError.__init__(self, f"no arc without a bound (node {node})")
        self.node = node


class NoRow(WaterError):
    """A text that the desk does not know."""

"""What is refused: one error class for each kind of refusal."""


class GiveError(ValueError):
    """The base of all refusals of this package."""


class NoChart(GiveError):
    """What was handed in is no chart."""


class NoPoints(GiveError):
    """What was handed in is no points of the chart."""


class NoGraph(GiveError):
    """What was handed in is no graph."""


class NoPlace(GiveError):
    """What was handed in is no place of a box."""


class NoNet(GiveError):
    """What was handed in is no net, or there is none."""


class NoActor(GiveError):
    """What was handed in is no actor of the net."""


class NoWeaving(GiveError):
    """What was handed in is no weaving."""


class NoName(GiveError):
    """What was handed in is no name of the sort that is wanted."""


class NoChannel(GiveError):
    """What was handed in is no channel of the net."""


class NoMost(GiveError):
    """What was handed in is no bound of steps."""


class NoCode(GiveError):
    """What was handed in is no code."""


class NoRow(GiveError):
    """What was handed in is no row with a last part."""


class NoAddress(GiveError):
    """What was handed in is no address of a heap."""


class NoDeed(GiveError):
    """No deed is left to be undone."""


class NotFull(GiveError):
    """A weaving is not full."""


class NotStill(GiveError):
    """A reading or a machine is not still."""


class NoLine(GiveError):
    """What was said to a desk is no line."""


class NoText(GiveError):
    """A text can't be read, from this row on."""

    def __init__(self, row):
        super().__init__(f"can't be read: row {row}")
        self.row = row


class Unsafe(GiveError):
    """A row gives away what is used later, as the way from behind it shows."""

    def __init__(self, actor, row, way):
        super().__init__(f"actor {actor}: the giving in row {row} isn't safe")
        self.actor = actor
        self.row = row
        self.way = way

"""Whatever is refused, each kind by a class of its own."""


class YardError(ValueError):
    """Any refusal."""


class BadPlan(YardError):
    """A plan that can't be: by this part of it, and the first number there that can't."""

    def __init__(self, part, number):
        super().__init__(f"no such plan can be: part {part}, number {number}")
        self.part = part
        self.number = number


class BadCount(YardError):
    """A count beyond its bounds, or none."""


class BadBridge(YardError):
    """No bridge of the plan."""


class BadRoad(YardError):
    """No road of the plan or of the bridge, or no member of the road."""


class BadLan(YardError):
    """No lan."""


class BadHost(YardError):
    """No host, or one that can't stand there."""


class Plugged(YardError):
    """A host that is plugged already."""


class NotPlugged(YardError):
    """A host that is not plugged."""


class IsDown(YardError):
    """A member that is down already."""


class IsUp(YardError):
    """A member that is up already."""


class BadDeed(YardError):
    """A deed that was refused, or is none: the one with this number."""

    def __init__(self, number):
        super().__init__(f"deed {number} can't be done")
        self.number = number


class BadText(YardError):
    """A text that is no written plan, by this row."""

    def __init__(self, row):
        super().__init__(f"row {row} is no row of a plan")
        self.row = row

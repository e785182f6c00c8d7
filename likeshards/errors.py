"""The refusals: one class for each kind, all of them under ShardError."""


class ShardError(ValueError):
    """Any refusal."""


class NoNumber(ShardError):
    """A number was asked for, and what was handed in is none that will do."""


class NoPrime(ShardError):
    """A prime below 100 was asked for."""


class NoField(ShardError):
    """A field was asked for."""


class NoCutting(ShardError):
    """A cutting was asked for; `fault` is what keeps the pieces from being one."""

    def __init__(self, fault):
        super().__init__("the pieces are no cutting of the field")
        self.fault = fault


class NoLine(ShardError):
    """Two alike spots make no line."""


class NoFrame(ShardError):
    """A frame was asked for."""


class NoDoor(ShardError):
    """A door of the border was asked for."""


class NoPaper(ShardError):
    """A paper of the field was asked for."""


class NoAreas(ShardError):
    """A row of areas was asked for."""


class NoWay(ShardError):
    """There is no such way to cut the field."""


class NoSpot(ShardError):
    """The spot, or the piece to be cut at it, is none that will do."""


class NoMove(ShardError):
    """The corner has no freedom to be moved so."""


class NoBend(ShardError):
    """A bend was asked for."""


class TooMany(ShardError):
    """More pieces would be looked at, or would come, than may be."""


class NoText(ShardError):
    """The text isn't written so; `at` is the number of the first wrong row."""

    def __init__(self, at):
        super().__init__("a row of the text is not written so")
        self.at = at


class NoRow(ShardError):
    """The desk knows no such row."""


class NoName(ShardError):
    """No cutting stands by the name, which is `name`."""

    def __init__(self, name):
        super().__init__("no cutting stands by this name")
        self.name = name

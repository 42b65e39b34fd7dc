"""The errors that the functions and classes of the package raise."""


class HueError(ValueError):
    """The base of the errors about webs, rows, operations and texts."""


class InvalidWeb(HueError):
    """A value is no web, or no web can be made of it."""


class InvalidRow(HueError):
    """A value is no row, or no row that fits."""


class InvalidOperation(HueError):
    """Values do not fit what should be done with them."""


class ParseError(HueError):
    """A text cannot be read; `line` is the index of the line at fault."""

    def __init__(self, line):
        self.line = line


class UnknownName(KeyError):
    """Nothing has this `name`."""

    def __init__(self, name):
        self.name = name


class NoChain(LookupError):
    """No chain leads from the first hue of the `pair` to the second one."""

    def __init__(self, pair):
        self.pair = pair


class InvalidNumber(RuntimeError):
    """The `value` is no integer that may stand there."""

    def __init__(self, value):
        self.value = value


class TooMany(OverflowError):
    """There are more than the `limit` allows."""

    def __init__(self, limit):
        self.limit = limit


class NothingToUndo(IndexError):
    """There are not so `many` changes to take back, or to do again."""

    def __init__(self, many):
        self.many = many


class Refused(ArithmeticError):
    """What was asked for is well formed, but cannot be, for this `reason`."""

    def __init__(self, reason):
        self.reason = reason

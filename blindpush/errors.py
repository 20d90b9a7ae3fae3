"""The errors that the package raises."""


class PushError(ValueError):
    """The base of the errors about wrong values and states."""


class BadPlan(PushError):
    """The value is not a plan: index is that of its first item that is not a push, or None."""

    def __init__(self, index):
        self.index = index


class TooLarge(PushError):
    """An argument is greater than the bound up to which plans are counted."""

    def __init__(self, bound):
        self.bound = bound


class BadCircle(PushError):
    """The value is not a number of places of a circle."""

    def __init__(self, value):
        self.value = value


class BadTools(PushError):
    """The value is not tools: index is that of its first item that is not a tool, or None."""

    def __init__(self, index):
        self.index = index


class BadTurn(PushError):
    """The value is not a number of at most 30 digits."""

    def __init__(self, value):
        self.value = value


class BadLength(PushError):
    """The value is not a length of the circle."""

    def __init__(self, value):
        self.value = value


class NotAlike(PushError):
    """The bench at the index has another circle than the first one."""

    def __init__(self, index):
        self.index = index


class BadBudget(PushError):
    """The value is not a budget."""

    def __init__(self, value):
        self.value = value


class BadCost(PushError):
    """The value is not a cost that can be paid or given back."""

    def __init__(self, value):
        self.value = value


class BadCosts(PushError):
    """The value is not costs for the tools."""

    def __init__(self, value):
        self.value = value


class OverBudget(PushError):
    """The cost is greater than the rest that is left."""

    def __init__(self, rest):
        self.rest = rest


class Impossible(PushError):
    """No possible place lies in the arc."""


class TooManyEdits(PushError):
    """As many edits stand as may stand."""


class NothingToUndo(PushError):
    """No edit stands."""


class BadEdits(PushError):
    """The value is not a batch of edits."""


class BadEdit(PushError):
    """The item of the batch at the index is not an edit."""

    def __init__(self, index):
        self.index = index


class Rejected(PushError):
    """The edit of the batch at the index raised an error."""

    def __init__(self, index):
        self.index = index


class Busy(PushError):
    """The bench takes no edits while it is watched."""


class BadText(PushError):
    """The value is not such a text: index is that of its first wrong part, or None."""

    def __init__(self, index):
        self.index = index


class NoTool(LookupError):
    """The value is not the index of a tool."""

    def __init__(self, value):
        self.value = value


class NoPlace(LookupError):
    """The value is not a place of the circle."""

    def __init__(self, value):
        self.value = value


class NoVersion(LookupError):
    """The value is not a version of the bench."""

    def __init__(self, value):
        self.value = value

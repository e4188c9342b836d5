"""What the program refuses, one class for each kind of refusal."""


class SceneError(ValueError):
    """Any refusal of this program."""


class BadScene(SceneError):
    """A text has no scene: why, of the first line with a fault."""

    def __init__(self, at, why):
        super().__init__(f"line {at}: {why}")
        self.at = at
        self.why = why


class NoPieces(SceneError):
    """Pieces make no picture: at is the first wrong one, -1 where a cell is lacking."""

    def __init__(self, at):
        super().__init__(f"no picture, at piece {at}")
        self.at = at


class NoAsker(SceneError):
    """The asker doesn't know how to ask."""


class NoWay(SceneError):
    """No way leads from a point to itself."""


class NoLine(SceneError):
    """The text has no line of that number."""


class NoMoment(SceneError):
    """That is no moment."""


class NoLook(SceneError):
    """The scene has no look of that name."""


class NoCell(SceneError):
    """The look has no cell there."""


class Nothing(SceneError):
    """No deed is left to take back."""

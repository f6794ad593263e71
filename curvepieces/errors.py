"""The errors of the package. Each class is a direct subclass of the one in front of it."""


class CurveError(ValueError):
    """A value that is not valid where it is passed."""


class InvalidCurve(CurveError):
    """The value is no curve."""

    def __init__(self, value):
        self.value = value


class InvalidLine(CurveError):
    """The value is no line, or none that is let there."""

    def __init__(self, value):
        self.value = value


class InvalidMany(CurveError):
    """The value is no COUNT within its bounds."""

    def __init__(self, value):
        self.value = value


class InvalidNumber(CurveError):
    """The value is no INTEGER."""

    def __init__(self, value):
        self.value = value


class InvalidPlane(CurveError):
    """The value is no plane."""

    def __init__(self, value):
        self.value = value


class InvalidPrime(CurveError):
    """The value is no prime below 10,000."""

    def __init__(self, value):
        self.value = value


class InvalidRoot(CurveError):
    """The value is no root."""

    def __init__(self, value):
        self.value = value


class DividedByNought(CurveError):
    """A number over a root was to be divided by nought."""


class InvalidChange(CurveError):
    """The value is no change of letters."""

    def __init__(self, value):
        self.value = value


class InvalidClaim(CurveError):
    """The value is no claim."""

    def __init__(self, value):
        self.value = value


class InvalidCommand(CurveError):
    """The value is no command."""

    def __init__(self, value):
        self.value = value


class InvalidFollower(CurveError):
    """The value is no follower of the curve."""

    def __init__(self, value):
        self.value = value


class InvalidForm(CurveError):
    """The value is no form."""

    def __init__(self, value):
        self.value = value


class InvalidLines(CurveError):
    """The lines of deeds are no list (None), or the one at the position is no deed."""

    def __init__(self, position):
        self.position = position


class InvalidPair(CurveError):
    """The value is no pair of the curve."""

    def __init__(self, value):
        self.value = value


class InvalidPaper(CurveError):
    """The value is no paper of the claim."""

    def __init__(self, value):
        self.value = value


class InvalidPoint(CurveError):
    """The value is no point over the root."""

    def __init__(self, value):
        self.value = value


class InvalidPositions(CurveError):
    """The value is no list of unlike positions, or not as long as is wanted."""

    def __init__(self, value):
        self.value = value


class InvalidRow(CurveError):
    """The value is no list of as many INTEGERS as there are pieces."""

    def __init__(self, value):
        self.value = value


class InvalidRows(CurveError):
    """The value is no rows over the root."""

    def __init__(self, value):
        self.value = value


class InvalidText(CurveError):
    """The text is not readable from the position on, or tells no such thing (None)."""

    def __init__(self, position):
        self.position = position


class InvalidValue(CurveError):
    """The value is no number over the root."""

    def __init__(self, value):
        self.value = value


class MissingError(LookupError):
    """Nothing is kept where something is looked for."""


class UnknownLabel(MissingError):
    """No claim is noted under the label."""

    def __init__(self, value):
        self.value = value


class UnknownName(MissingError):
    """Nothing of the wanted kind is kept under the name."""

    def __init__(self, value):
        self.value = value


class StateError(RuntimeError):
    """Valid values that do not let the answer be told."""


class BadPrime(StateError):
    """The plane is not clean modulo the prime, or the prime is too small."""


class CommandFailed(StateError):
    """The command at the position failed; its error is the cause."""

    def __init__(self, position):
        self.position = position


class LabelTaken(StateError):
    """A claim is already noted under the label."""

    def __init__(self, label):
        self.label = label


class LiesOn(StateError):
    """The curve lies on the form."""


class NameTaken(StateError):
    """Something is already kept under the name."""

    def __init__(self, name):
        self.name = name


class NoPart(StateError):
    """The one plane does not go into the other one."""


class NotClean(StateError):
    """The plane is not clean."""


class NothingToRedo(StateError):
    """No deed was taken back that could be done again."""


class NothingToUndo(StateError):
    """No deed is left that could be taken back."""


class ZeroLine(StateError):
    """A line is [] where it must not be."""


class ZeroPlane(StateError):
    """A plane is [] where it must not be."""


class LimitError(ArithmeticError):
    """An answer beyond a limit."""


class TooMany(LimitError):
    """There would be more of what is told than the limit."""

    def __init__(self, what, limit):
        self.what = what
        self.limit = limit

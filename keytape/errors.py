"""What is refused, one class for each kind of refusal."""


class TapeError(ValueError):
    """Any refusal."""


class BadText(TapeError):
    """What was handed in is no text for an editor."""


class BadKey(TapeError):
    """What was handed in is no key."""


class BadKeys(TapeError):
    """Among the keys of a tape one is no key, or one too many: the one with the number `at`."""

    def __init__(self, at):
        super().__init__(f"no key for a tape at {at}")
        self.at = at


class BadName(TapeError):
    """What was handed in is no name of a tape."""


class BadNames(TapeError):
    """The names of tapes do not rise, or a tape that is named is empty."""


class BadNumbers(TapeError):
    """A number of signs is out of its range."""


class Taping(TapeError):
    """Keys are taped already."""


class NotTaping(TapeError):
    """No keys are taped."""


class TooLong(TapeError):
    """More things would be done by a key than one key may do."""


class BadTape(TapeError):
    """A row of a text of tapes is no tape: the one with the number `line`."""

    def __init__(self, line):
        super().__init__(f"no tape in row {line}")
        self.line = line

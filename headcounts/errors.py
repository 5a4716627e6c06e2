"""The refusals of the package."""


class CountError(ValueError):
    """What is handed in is refused."""


class BadCandidates(CountError):
    """No whole number from 1 to 20."""


class BadBallots(CountError):
    """No ballots of that many candidates."""


class BadTable(CountError):
    """No table."""


class NotPeaked(CountError):
    """Ballots of which one at least is not peaked."""

"""The refusals: one error for each kind of what cannot be taken."""


class JoinError(ValueError):
    """Any refusal."""


class BadYard(JoinError):
    """What is no yard, or is not in its least form."""


class BadPlaces(JoinError):
    """What are the places of no yard."""


class BadDeed(JoinError):
    """What is no deed of the yard."""


class BadText(JoinError):
    """What is the text of no yard."""


class Unlike(JoinError):
    """Yards whose names are not the same."""

"""The refusals: all stand straight under TieError."""


class TieError(ValueError):
    """Any refusal."""


class BadCounts(TieError):
    """What was handed in is no list of counts."""


class BadMany(TieError):
    """No whole number from 0 to how many counts there are."""


class BadWeb(TieError):
    """A size and ties that are no web."""


class BadExchange(TieError):
    """What was handed in is no exchange of the web."""


class Unlike(TieError):
    """Two webs whose counts are not the same."""


class NoWeb(TieError):
    """There is no web such as was asked for."""

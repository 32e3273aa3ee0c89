"""The refusals of the program, one class for each kind."""


class FareError(ValueError):
    """Any refusal."""


class BadLink(FareError):
    """A link has a stop that is not there, or the same stop twice."""


class BadStop(FareError):
    """A stop is not there."""


class NoWay(FareError):
    """No way joins two stops."""


class BadPrices(FareError):
    """A tariff has not just five prices of a sort, or one below nought."""


class BadZones(FareError):
    """Zones are not from one to five."""


class PastDay(FareError):
    """A day is below nought, or below the day of a card's last ride."""

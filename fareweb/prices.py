"""Tariffs: the prices of single, day and week tickets for one to five zones."""

from fareweb.errors import BadPrices, BadZones

MOST_ZONES = 5


class Tariff:
    """The prices of each of the three sorts of tickets, for one to five zones in order."""

    def __init__(self, singles, days, weeks):
        for prices in (singles, days, weeks):
            _check_prices(prices)
        # Copies, so that a list that is changed later by who handed it in changes no price.
        self.singles = list(singles)
        self.days = list(days)
        self.weeks = list(weeks)

    def single(self, zones):
        """The price of a single for some zones."""
        return _least_price(self.singles, zones)

    def day(self, zones):
        """The price of a day ticket for some zones."""
        return _least_price(self.days, zones)

    def week(self, zones):
        """The price of a week ticket for some zones."""
        return _least_price(self.weeks, zones)


def cheapest(prices, zones):
    """The least price of one sort for so many zones or for more, and for how many zones that is."""
    return min([(prices[size - 1], size) for size in range(zones, MOST_ZONES + 1)])


def check_zones(zones):
    """Refuses zones that no ticket is for."""
    if not 1 <= zones <= MOST_ZONES:
        # The zones are not named: Python writes out no number of very many figures.
        raise BadZones("the zones are not from one to five")


def _least_price(prices, zones):
    check_zones(zones)
    price, _ = cheapest(prices, zones)
    return price


def _check_prices(prices):
    if len(prices) != MOST_ZONES:
        raise BadPrices("a sort of ticket has not just five prices")
    if min(prices) < 0:
        raise BadPrices("a price is below nought")

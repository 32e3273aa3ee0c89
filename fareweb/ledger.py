"""Ledgers: the rides of each card, their charges, and tickets that cost as much."""

from fareweb.covers import WEEK_DAYS, empty_counts, least, least_cost
from fareweb.errors import PastDay
from fareweb.prices import MOST_ZONES


class Account:
    """The rides of one card in their order, and the sums of their charges."""

    def __init__(self):
        self.rows = []
        self.last_day = 0
        # Of the rides in the week of the last day only: days never go back.
        self.week_counts = empty_counts()
        self.day_sums = {}
        self.week_sums = {}
        self.total = 0

    def charge_ride(self, tariff, day, start, goal, zones):
        """Notes one more ride, on the last day or later, and tells its charge."""
        week = day // WEEK_DAYS
        if week > self.last_day // WEEK_DAYS:
            self.week_counts = empty_counts()
        self.last_day = day
        self.week_counts[day % WEEK_DAYS][zones] += 1
        # The sum of a week is the least cost of its rides so far.
        week_sum = self.week_sums.get(week, 0)
        charge = least_cost(tariff, self.week_counts) - week_sum
        self.rows.append((day, start, goal, zones, charge))
        self.day_sums[day] = self.day_sums.get(day, 0) + charge
        self.week_sums[week] = week_sum + charge
        self.total += charge
        return charge

    def week_zones(self, week):
        """For each day of a week the zones of its rides."""
        days = [[] for _ in range(WEEK_DAYS)]
        for row in self.rows:
            day, zones = row[0], row[3]
            if day // WEEK_DAYS == week:
                days[day % WEEK_DAYS].append(zones)
        return days


class Ledger:
    """The rides of all cards in one web, under one tariff."""

    def __init__(self, web, tariff):
        self._web = web
        self._tariff = tariff
        self._accounts = {}

    def ride(self, card, day, start, goal):
        """The charge of a ride, which is one more of the card."""
        zones = min(self._web.fewest(start, goal), MOST_ZONES)
        account = self._account(card)
        # The last day is never below nought, so this refuses all days below nought, too.
        if day < account.last_day:
            # The day is not named: Python writes out no number of very many figures.
            raise PastDay("the day is below nought, or below the day of the card's last ride")
        self._accounts[card] = account
        return account.charge_ride(self._tariff, day, start, goal, zones)

    def rides(self, card):
        """The card's rides in their order: day, start, goal, zones that it counts as, charge."""
        return list(self._account(card).rows)

    def day_sum(self, card, day):
        """The charges of the card's rides on a day, added up."""
        return self._account(card).day_sums.get(day, 0)

    def week_sum(self, card, week):
        """The charges of the card's rides in a week, added up."""
        return self._account(card).week_sums.get(week, 0)

    def paid(self, card):
        """The charges of all rides of the card, added up."""
        return self._account(card).total

    def tickets(self, card, week):
        """Tickets that serve the card's rides in a week and cost its week_sum together."""
        _, tickets = least(self._tariff, self._account(card).week_zones(week))
        return tickets

    def _account(self, card):
        """The card's account; a new one, not kept yet, where the card has no rides."""
        return self._accounts.get(card, Account())

"""A search of all sets of tickets, kept apart from the program so that its answers can be held against it."""

import functools
import itertools
import random

SIZES = (1, 2, 3, 4, 5)


def price_rows(tariff):
    return {"single": tariff.singles, "day": tariff.days, "week": tariff.weeks}


def all_tickets(tariff, days):
    """Every ticket that can serve a ride of the week, in the form of the interface."""
    tickets = [("week", size, tariff.weeks[size - 1]) for size in SIZES]
    for day, rides in enumerate(days):
        tickets += [("day", day, size, tariff.days[size - 1]) for size in SIZES]
        for ride in range(len(rides)):
            tickets += [("single", day, ride, size, tariff.singles[size - 1]) for size in SIZES]
    return tickets


def serves(ticket, day, ride, zones):
    """Whether the ticket serves this ride, as point 6 says."""
    if zones > ticket[-2]:
        return False
    if ticket[0] == "week":
        return True
    if ticket[0] == "day":
        return ticket[1] == day
    return ticket[1] == day and ticket[2] == ride


def rides_of(days):
    return [(day, ride, zones) for day, rides in enumerate(days) for ride, zones in enumerate(rides)]


def cost_of_subsets(tariff, days):
    """The least cost of all sets of tickets that serve the rides, taken one by one.

    Of a set that serves the rides, one ticket for each ride is enough: no larger sets are looked at.
    """
    rides = rides_of(days)
    costs = []
    for many in range(len(rides) + 1):
        for chosen in itertools.combinations(all_tickets(tariff, days), many):
            if all(any(serves(ticket, *ride) for ticket in chosen) for ride in rides):
                costs.append(sum(ticket[-1] for ticket in chosen))
    return min(costs)


def cost_of_all_sets(tariff, days):
    """The same for somewhat more rides: any ticket that serves the first ride left may be taken."""
    rides = rides_of(days)
    tickets = all_tickets(tariff, days)
    served_by = [
        (ticket[-1], frozenset(at for at, ride in enumerate(rides) if serves(ticket, *ride)))
        for ticket in tickets
    ]

    @functools.lru_cache(maxsize=None)
    def cost(left):
        if not left:
            return 0
        first = min(left)
        return min(price + cost(left - served) for price, served in served_by if first in served)

    return cost(frozenset(range(len(rides))))


def wrong_tickets(tariff, days, tickets):
    """Why the tickets are not what the interface says, or None where they are."""
    rows = price_rows(tariff)
    lengths = {"week": 3, "day": 4, "single": 5}
    for ticket in tickets:
        if type(ticket) is not tuple or len(ticket) != lengths.get(ticket[0]):
            return f"form of {ticket}"
        if any(type(number) is not int for number in ticket[1:]):
            return f"kinds of {ticket}"
        if ticket[-2] not in SIZES or ticket[-1] != rows[ticket[0]][ticket[-2] - 1]:
            return f"price of {ticket}"
        if ticket[0] != "week" and not 0 <= ticket[1] < len(days):
            return f"day of {ticket}"
        if ticket[0] == "single" and not 0 <= ticket[2] < len(days[ticket[1]]):
            return f"ride of {ticket}"
    for day, ride, zones in rides_of(days):
        if not any(serves(ticket, day, ride, zones) for ticket in tickets):
            return f"nothing serves ride {ride} of day {day}"
    return None


def chance_rows(chance, highest):
    """Three rows of five prices in any order."""
    return [[chance.randrange(highest + 1) for _ in range(5)] for _ in range(3)]


def fair_rows(chance):
    """Three rows whose sorts of tickets are worth about the same in a small week, rising mostly."""
    rows = []
    for base, step in ((4, 3), (7, 5), (20, 18)):
        row = [base + step * size + chance.randrange(-3, 4) for size in range(5)]
        if chance.randrange(3) == 0:
            chance.shuffle(row)
        rows.append(row)
    return rows


def chance_days(chance, days, rides):
    """A week of so many days and so many rides, more of them early and through few zones."""
    week = [[] for _ in range(days)]
    for _ in range(rides):
        week[chance.randrange(chance.randint(1, days))].append(chance.choice([1, 1, 1, 2, 3, 4, 5]))
    return week


def chance_of(seed):
    return random.Random(seed)

"""The least cost of the rides of one card in one week, and tickets that serve them for it.

A ticket serves all that one of the same sort for fewer zones serves. So no week needs two week
tickets and no day two day tickets, and a plan says enough by the zones of its week ticket and of
the ticket of each day: rides of more zones take singles. Nought zones mean no ticket.
"""

from fareweb.prices import MOST_ZONES, cheapest, check_zones

WEEK_DAYS = 7


def least(tariff, days):
    """The least cost of the rides of one week, and a list of tickets that serve them for it."""
    for rides in days:
        for zones in rides:
            check_zones(zones)
    cost, week_size, day_sizes = _cheapest_plan(tariff, [_count_rides(rides) for rides in days])
    return cost, _plan_tickets(tariff, days, week_size, day_sizes)


def least_cost(tariff, counts):
    """The least cost of rides that are told by counts, in the form of empty_counts."""
    return _cheapest_plan(tariff, counts)[0]


def empty_counts():
    """For each day of a week a list that says at each number of zones how many rides have so many."""
    return [_count_rides([]) for _ in range(WEEK_DAYS)]


def _count_rides(rides):
    counts = [0] * (MOST_ZONES + 1)
    for zones in rides:
        counts[zones] += 1
    return counts


def _cheapest_plan(tariff, counts):
    """The cost of a cheapest plan, the zones of its week ticket, and those of each day's ticket."""
    single_prices = _prices_by_size(tariff.singles)
    day_prices = _prices_by_size(tariff.days)
    week_prices = _prices_by_size(tariff.weeks)
    costs_above = [_costs_above(single_prices, day_counts) for day_counts in counts]
    plans = []
    for week_size in range(MOST_ZONES + 1):
        day_plans = [_cheapest_day_plan(day_prices, costs, week_size) for costs in costs_above]
        cost = week_prices[week_size] + sum([day_cost for day_cost, _ in day_plans])
        plans.append((cost, week_size, [day_size for _, day_size in day_plans]))
    return min(plans)


def _prices_by_size(prices):
    """At each number of zones the least price for so many or for more; nought for no ticket."""
    least_prices = [0]
    for zones in range(1, MOST_ZONES + 1):
        price, _ = cheapest(prices, zones)
        least_prices.append(price)
    return least_prices


def _costs_above(single_prices, counts):
    """At each number of zones the cost of singles for all rides of one day that have more."""
    costs = [0] * (MOST_ZONES + 1)
    for zones in range(MOST_ZONES, 0, -1):
        costs[zones - 1] = costs[zones] + counts[zones] * single_prices[zones]
    return costs


def _cheapest_day_plan(day_prices, costs_above, week_size):
    """The least cost of one day beside a week ticket, and the zones of the day's ticket."""
    return min([
        (day_prices[day_size] + costs_above[max(day_size, week_size)], day_size)
        for day_size in range(MOST_ZONES + 1)
    ])


def _plan_tickets(tariff, days, week_size, day_sizes):
    tickets = []
    if week_size > 0:
        price, size = cheapest(tariff.weeks, week_size)
        tickets.append(("week", size, price))
    for day, rides in enumerate(days):
        if day_sizes[day] > 0:
            price, size = cheapest(tariff.days, day_sizes[day])
            tickets.append(("day", day, size, price))
        tickets.extend(_single_tickets(tariff, day, rides, max(week_size, day_sizes[day])))
    return tickets


def _single_tickets(tariff, day, rides, served):
    """Singles for the rides of one day that have more zones than other tickets serve."""
    tickets = []
    for ride, zones in enumerate(rides):
        if zones > served:
            price, size = cheapest(tariff.singles, zones)
            tickets.append(("single", day, ride, size, price))
    return tickets

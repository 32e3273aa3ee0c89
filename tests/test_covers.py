"""Points 6 and 7: tickets that serve the rides of one week, and their least cost."""

import copy
import inspect
import itertools
import unittest

from fareweb import covers
from fareweb.covers import least
from fareweb.errors import BadZones
from fareweb.prices import Tariff
from fares import (
    chance_days, chance_of, chance_rows, cost_of_all_sets, cost_of_subsets, fair_rows, wrong_tickets,
)
from refusals import LARGE, RefusalCase
from webs import Within

TARIFF = Tariff([2, 3, 4, 5, 6], [5, 7, 9, 11, 13], [20, 26, 32, 38, 44])
TWELVE = 10 ** 12 - 1


class CoverCase(RefusalCase):
    def assert_least(self, tariff, days, cost):
        """The program tells this cost, and tickets that are what the interface says."""
        told = least(tariff, days)
        self.assertIs(type(told), tuple)
        self.assertEqual(len(told), 2)
        self.assertIs(type(told[0]), int)
        self.assertIs(type(told[1]), list)
        where = (tariff.singles, tariff.days, tariff.weeks, days, told)
        self.assertEqual(told[0], cost, where)
        self.assertEqual(sum(ticket[-1] for ticket in told[1]), cost, where)
        self.assertIsNone(wrong_tickets(tariff, days, told[1]), where)

    def assert_tickets(self, tariff, days, tickets):
        """For weeks of which only one set of tickets is the least."""
        self.assert_least(tariff, days, sum(ticket[-1] for ticket in tickets))
        self.assertEqual(sorted(least(tariff, days)[1]), sorted(tickets))


class Interface(CoverCase):
    def test_name_and_arguments(self):
        self.assertEqual(list(inspect.signature(least).parameters), ["tariff", "days"])
        self.assertEqual(least.__module__, covers.__name__)

    def test_arguments_by_keyword(self):
        self.assertEqual(least(days=[[1]], tariff=TARIFF), (2, [("single", 0, 0, 1, 2)]))


class Without(CoverCase):
    def test_no_days(self):
        self.assertEqual(least(TARIFF, []), (0, []))

    def test_days_without_rides(self):
        for days in range(1, 8):
            self.assertEqual(least(TARIFF, [[] for _ in range(days)])[0], 0)
            self.assert_least(TARIFF, [[] for _ in range(days)], 0)

    def test_no_rides_need_no_tickets(self):
        self.assert_tickets(TARIFF, [[], [], [], [], [], [], []], [])

    def test_no_rides_at_prices_nought(self):
        tariff = Tariff([0] * 5, [0] * 5, [0] * 5)
        self.assert_least(tariff, [], 0)
        self.assert_least(tariff, [[], []], 0)


class ByHand(CoverCase):
    def test_one_ride_of_each_number_of_zones(self):
        for zones in range(1, 6):
            for day in range(7):
                days = [[] for _ in range(7)]
                days[day] = [zones]
                self.assert_tickets(TARIFF, days, [("single", day, 0, zones, zones + 1)])

    def test_the_place_of_a_single(self):
        self.assert_tickets(
            Tariff([1] * 4 + [2], [50] * 5, [50] * 5),
            [[], [5, 5], [], [5]],
            [("single", 1, 0, 5, 2), ("single", 1, 1, 5, 2), ("single", 3, 0, 5, 2)],
        )

    def test_a_day_ticket_for_several_rides_of_one_day(self):
        self.assert_tickets(TARIFF, [[], [1, 1, 1]], [("day", 1, 1, 5)])
        self.assert_tickets(TARIFF, [[3, 3, 3]], [("day", 0, 3, 9)])

    def test_a_day_ticket_serves_no_other_day(self):
        self.assert_tickets(
            TARIFF, [[1, 1, 1], [1]], [("day", 0, 1, 5), ("single", 1, 0, 1, 2)],
        )

    def test_a_day_ticket_beside_a_single_for_the_wider_ride(self):
        self.assert_tickets(
            TARIFF, [[1, 1, 4, 1]], [("day", 0, 1, 5), ("single", 0, 2, 4, 5)],
        )

    def test_a_wider_day_ticket_for_all(self):
        self.assert_tickets(TARIFF, [[1, 4, 4, 1, 3]], [("day", 0, 4, 11)])

    def test_a_week_ticket(self):
        days = [[1, 1, 1], [1, 1, 1], [1, 1, 1], [1, 1, 1], [1, 1, 1]]
        self.assert_tickets(TARIFF, days, [("week", 1, 20)])

    def test_a_week_ticket_beside_singles_and_a_day_ticket_for_the_wider_rides(self):
        days = [[1, 1, 1], [1, 1, 3], [1, 5, 5, 5, 1], [1, 1, 1], [1, 1, 1], [2, 1, 1], [1, 1, 1]]
        self.assert_tickets(TARIFF, days, [
            ("week", 1, 20), ("single", 1, 2, 3, 4), ("day", 2, 5, 13), ("single", 5, 0, 2, 3),
        ])

    def test_a_week_ticket_and_a_day_ticket_together_with_a_single(self):
        tariff = Tariff([10, 10, 10, 10, 10], [50, 50, 12, 50, 50], [15, 50, 50, 50, 50])
        days = [[1, 1, 3, 2, 5], [1, 1], [1]]
        self.assert_tickets(tariff, days, [("week", 1, 15), ("day", 0, 3, 12), ("single", 0, 4, 5, 10)])

    def test_a_ticket_for_more_zones_that_costs_less(self):
        self.assert_tickets(Tariff([9, 8, 7, 3, 8], [50] * 5, [50] * 5), [[1]], [("single", 0, 0, 4, 3)])
        self.assert_tickets(Tariff([9] * 5, [8, 7, 6, 7, 5], [50] * 5), [[], [2]], [("day", 1, 5, 5)])
        self.assert_tickets(Tariff([9] * 5, [8] * 5, [7, 6, 2, 3, 4]), [[2]], [("week", 3, 2)])

    def test_a_ticket_stands_at_the_price_for_just_so_many_zones(self):
        self.assert_tickets(
            Tariff([9, 9, 4, 9, 9], [50] * 5, [50] * 5), [[1, 3, 2]],
            [("single", 0, 0, 3, 4), ("single", 0, 1, 3, 4), ("single", 0, 2, 3, 4)],
        )

    def test_a_ticket_for_fewer_zones_serves_no_wider_ride(self):
        for zones in range(2, 6):
            rows = [[0] * (zones - 1) + [7] * (6 - zones) for _ in range(3)]
            self.assert_least(Tariff(*rows), [[zones]], 7)
            self.assert_least(Tariff(*rows), [[zones - 1]], 0)
            self.assert_least(Tariff(*rows), [[zones], [zones - 1, zones]], 7)

    def test_prices_nought(self):
        tariff = Tariff([0] * 5, [0] * 5, [0] * 5)
        self.assert_least(tariff, [[1, 2, 3], [], [4, 5], [5]], 0)
        self.assert_least(Tariff([9] * 5, [9] * 5, [9, 9, 0, 9, 9]), [[1, 2, 3], [], [3]], 0)
        self.assert_least(Tariff([9] * 5, [9, 0, 9, 9, 9], [20] * 5), [[1, 2], [2], [3]], 9)
        self.assert_least(Tariff([0, 0, 0, 9, 0], [9] * 5, [20] * 5), [[4, 5, 1]] * 7, 0)

    def test_prices_of_twelve_figures(self):
        tariff = Tariff([TWELVE] * 5, [TWELVE] * 5, [TWELVE] * 5)
        self.assert_least(tariff, [[1, 2, 3], [5], [4]], TWELVE)
        tariff = Tariff([TWELVE - 1] * 5, [TWELVE] * 5, [TWELVE] * 5)
        self.assert_least(tariff, [[5]], TWELVE - 1)
        tariff = Tariff([333333333334] * 5, [TWELVE] * 5, [TWELVE] * 5)
        self.assert_least(tariff, [[5], [1], [1]], TWELVE)
        self.assert_least(tariff, [[5], [1]], 666666666668)


class AgainstAllSets(CoverCase):
    def test_every_subset_of_tickets_in_the_smallest_weeks(self):
        for seed in range(120):
            chance = chance_of(seed)
            tariff = Tariff(*chance_rows(chance, 3 + seed % 9))
            days = chance_days(chance, 1 + seed % 2, seed % 3 + 1)
            cost = cost_of_subsets(tariff, days)
            self.assertEqual(cost_of_all_sets(tariff, days), cost)
            self.assert_least(tariff, days, cost)

    def test_all_pairs_of_rides(self):
        for seed in range(3):
            tariff = Tariff(*fair_rows(chance_of(seed)))
            for one, other in itertools.product(range(1, 6), repeat=2):
                for days in ([[one, other]], [[one], [other]], [[], [one], [], [other]]):
                    self.assert_least(tariff, days, cost_of_all_sets(tariff, days))

    def test_chance_weeks_at_chance_prices(self):
        for seed in range(300):
            chance = chance_of(seed)
            tariff = Tariff(*chance_rows(chance, 1 + seed % 20))
            days = chance_days(chance, 1 + seed % 7, seed % 16)
            self.assert_least(tariff, days, cost_of_all_sets(tariff, days))

    def test_chance_weeks_at_prices_of_like_worth(self):
        sorts = set()
        for seed in range(400):
            chance = chance_of(seed)
            tariff = Tariff(*fair_rows(chance))
            days = chance_days(chance, 2 + seed % 6, 2 + seed % 20)
            self.assert_least(tariff, days, cost_of_all_sets(tariff, days))
            sorts.add(tuple(sorted({ticket[0] for ticket in least(tariff, days)[1]})))
        # The prices are such that tickets of all sorts, alone and together, are the least somewhere.
        self.assertEqual(len(sorts), 7)


class LargeWeeks(CoverCase):
    def test_seven_days_with_a_ticket_each(self):
        tariff = Tariff([6] * 5, [5, 6, 7, 8, 9], [99] * 5)
        self.assert_tickets(
            tariff, [[1, 1], [2, 1], [3, 3], [4, 4], [5, 5], [1, 1], [1, 1]],
            [("day", day, size, 4 + size) for day, size in enumerate([1, 2, 3, 4, 5, 1, 1])],
        )

    def test_many_rides_on_one_day(self):
        for day in range(7):
            days = [[] for _ in range(7)]
            days[day] = [1, 2, 3, 4, 5] * 400
            with Within(30):
                self.assert_tickets(TARIFF, days, [("day", day, 5, 13)])

    def test_many_rides_that_singles_serve(self):
        tariff = Tariff([1, 2, 3, 4, 5], [9999] * 5, [9999] * 5)
        with Within(30):
            self.assert_least(tariff, [[1, 2, 3, 4, 5] * 20] * 7, 15 * 20 * 7)

    def test_many_rides_on_all_days(self):
        with Within(30):
            self.assert_tickets(TARIFF, [[1, 2, 3, 4, 5] * 300] * 7, [("week", 5, 44)])

    def test_somewhat_more_than_seven_days(self):
        days = [[1], [2], [3], [], [], [], [5], [4], []]
        self.assert_tickets(TARIFF, days, [
            ("single", 0, 0, 1, 2), ("single", 1, 0, 2, 3), ("single", 2, 0, 3, 4),
            ("single", 6, 0, 5, 6), ("single", 7, 0, 4, 5),
        ])


class Own(CoverCase):
    DAYS = [[1, 1, 4, 1], [], [2, 5], [3], [], [1, 1], [4]]

    def test_nothing_handed_in_is_changed(self):
        days = copy.deepcopy(self.DAYS)
        rows = copy.deepcopy((TARIFF.singles, TARIFF.days, TARIFF.weeks))
        least(TARIFF, days)
        self.assertEqual(days, self.DAYS)
        self.assertEqual((TARIFF.singles, TARIFF.days, TARIFF.weeks), rows)
        days[5].append(6)
        self.assertRaises(BadZones, least, TARIFF, days)
        self.assertEqual(days, [*self.DAYS[:5], [1, 1, 6], [4]])

    def test_emptying_the_told_tickets_changes_no_later_answer(self):
        told = least(TARIFF, self.DAYS)
        kept = told[0], list(told[1])
        least(TARIFF, self.DAYS)[1].clear()
        least(TARIFF, [])[1].append("more")
        self.assertEqual(least(TARIFF, self.DAYS), kept)
        self.assertEqual(least(TARIFF, []), (0, []))
        told[1].clear()
        self.assertEqual(least(TARIFF, self.DAYS), kept)
        self.assertEqual(told[1], [])

    def test_asking_again_changes_nothing_that_was_told(self):
        told = least(TARIFF, self.DAYS)
        kept = told[0], list(told[1])
        least(TARIFF, [[5, 5, 5]] * 7)
        least(TARIFF, self.DAYS)
        self.assertEqual(told, kept)
        self.assertIsNot(told[1], least(TARIFF, self.DAYS)[1])

    def test_changing_the_days_later_changes_nothing_that_was_told(self):
        days = copy.deepcopy(self.DAYS)
        told = least(TARIFF, days)
        kept = told[0], list(told[1])
        days[0].clear()
        days.pop()
        self.assertEqual(told, kept)

    def test_changing_rows_of_prices_later_changes_no_cost(self):
        rows = [list(row) for row in (TARIFF.singles, TARIFF.days, TARIFF.weeks)]
        tariff = Tariff(*rows)
        for row in rows:
            row[4] = 0
        self.assertEqual(least(tariff, self.DAYS), least(TARIFF, self.DAYS))


class Refusals(CoverCase):
    def test_zones_not_from_one_to_five_at_any_place(self):
        for zones in (0, 6, 7, -1, -2, -5, -6, 60, 10 ** 12, LARGE, -LARGE):
            for day in range(7):
                for ride in range(3):
                    days = [[1, 5] for _ in range(7)]
                    days[day].insert(ride, zones)
                    self.assert_refused(BadZones, least, TARIFF, days)

    def test_a_wrong_ride_alone(self):
        for zones in (0, 6, -1):
            self.assert_refused(BadZones, least, TARIFF, [[zones]])
            self.assert_refused(BadZones, least, TARIFF, [[], [], [], [], [], [], [zones]])

    def test_a_wrong_ride_where_a_free_ticket_is_there(self):
        tariff = Tariff([0] * 5, [0] * 5, [0] * 5)
        for zones in (0, 6, -1):
            self.assert_refused(BadZones, least, tariff, [[1], [zones]])


if __name__ == "__main__":
    unittest.main()

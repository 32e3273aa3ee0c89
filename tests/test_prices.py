"""Points 4 and 5: tariffs, and the price of a sort of ticket for some zones."""

import inspect
import itertools
import unittest

from fareweb import prices as prices_module
from fareweb.errors import BadPrices, BadZones
from fareweb.prices import MOST_ZONES, Tariff
from fares import SIZES, chance_of, chance_rows, price_rows
from refusals import LARGE, RefusalCase

ROWS = ([3, 5, 4, 8, 7], [10, 9, 12, 11, 13], [40, 45, 50, 48, 60])
TWELVE = 10 ** 12 - 1


def asks(tariff):
    """The three methods, each beside the row that it goes by."""
    rows = price_rows(tariff)
    return [(tariff.single, rows["single"]), (tariff.day, rows["day"]), (tariff.week, rows["week"])]


def told_prices(tariff):
    return [[ask(zones) for zones in SIZES] for ask, _ in asks(tariff)]


def with_row(place, row):
    """The three good rows, but another one at the place."""
    rows = [list(good) for good in ROWS]
    rows[place] = row
    return rows


class Interface(unittest.TestCase):
    def test_most_zones(self):
        self.assertEqual(MOST_ZONES, 5)
        self.assertIs(type(MOST_ZONES), int)

    def test_names_and_arguments(self):
        arguments = {
            "__init__": ["self", "singles", "days", "weeks"],
            "single": ["self", "zones"],
            "day": ["self", "zones"],
            "week": ["self", "zones"],
        }
        for name, names in arguments.items():
            method = Tariff.__dict__[name]
            self.assertEqual(list(inspect.signature(method).parameters), names)
        self.assertEqual(Tariff.__module__, prices_module.__name__)

    def test_arguments_by_keyword(self):
        tariff = Tariff(weeks=ROWS[2], days=ROWS[1], singles=ROWS[0])
        self.assertEqual(tariff.single(zones=2), 4)
        self.assertEqual(tariff.day(zones=2), 9)
        self.assertEqual(tariff.week(zones=2), 45)

    def test_fields_are_as_they_were_handed_in(self):
        tariff = Tariff(*ROWS)
        self.assertEqual(tariff.singles, [3, 5, 4, 8, 7])
        self.assertEqual(tariff.days, [10, 9, 12, 11, 13])
        self.assertEqual(tariff.weeks, [40, 45, 50, 48, 60])
        for row in (tariff.singles, tariff.days, tariff.weeks):
            self.assertIs(type(row), list)


class Prices(unittest.TestCase):
    def test_rising_prices_are_those_of_just_so_many_zones(self):
        rows = [[1, 2, 3, 4, 5], [6, 7, 8, 9, 10], [11, 12, 13, 14, 15]]
        self.assertEqual(told_prices(Tariff(*rows)), rows)

    def test_a_lower_price_for_more_zones_counts(self):
        self.assertEqual(
            told_prices(Tariff(*ROWS)),
            [[3, 4, 4, 7, 7], [9, 9, 11, 11, 13], [40, 45, 48, 48, 60]],
        )

    def test_falling_prices_are_all_that_of_five_zones(self):
        rows = [[9, 8, 7, 6, 5], [19, 18, 17, 16, 15], [29, 28, 27, 26, 25]]
        self.assertEqual(told_prices(Tariff(*rows)), [[5] * 5, [15] * 5, [25] * 5])

    def test_each_sort_goes_by_its_own_row(self):
        tariff = Tariff([7] * 5, [3] * 5, [5] * 5)
        self.assertEqual(told_prices(tariff), [[7] * 5, [3] * 5, [5] * 5])

    def test_every_order_of_five_prices(self):
        for row in itertools.permutations([0, 1, 2, 3, 4]):
            tariff = Tariff(list(row), list(row[::-1]), list(row))
            for ask, prices in asks(tariff):
                for zones in SIZES:
                    self.assertEqual(ask(zones), min(prices[zones - 1:]), (row, zones))

    def test_chance_prices_with_like_ones_among_them(self):
        for seed in range(200):
            tariff = Tariff(*chance_rows(chance_of(seed), 6))
            for ask, prices in asks(tariff):
                for zones in SIZES:
                    self.assertEqual(ask(zones), min(prices[zones - 1:]), (prices, zones))

    def test_price_nought(self):
        self.assertEqual(told_prices(Tariff([0] * 5, [0] * 5, [0] * 5)), [[0] * 5] * 3)
        self.assertEqual(
            told_prices(Tariff([4, 4, 0, 4, 4], [0, 4, 4, 4, 4], [4, 4, 4, 4, 0])),
            [[0, 0, 0, 4, 4], [0, 4, 4, 4, 4], [0] * 5],
        )

    def test_prices_of_twelve_figures(self):
        rows = [[TWELVE - 5 + size for size in SIZES], [TWELVE] * 5, [TWELVE, 0, TWELVE, TWELVE - 1, TWELVE]]
        self.assertEqual(
            told_prices(Tariff(*rows)),
            [rows[0], [TWELVE] * 5, [0, 0, TWELVE - 1, TWELVE - 1, TWELVE]],
        )

    def test_prices_somewhat_beyond_twelve_figures(self):
        beyond = 10 ** 13 + 1
        self.assertEqual(told_prices(Tariff([beyond] * 5, [beyond] * 5, [beyond] * 5)), [[beyond] * 5] * 3)

    def test_kinds_of_what_is_told(self):
        for row in told_prices(Tariff(*ROWS)):
            for price in row:
                self.assertIs(type(price), int)


class HandedIn(unittest.TestCase):
    def test_nothing_handed_in_is_changed(self):
        rows = [list(row) for row in ROWS]
        told_prices(Tariff(*rows))
        self.assertEqual(rows, [list(row) for row in ROWS])

    def test_a_refusal_changes_nothing_that_was_handed_in(self):
        for place in range(3):
            rows = with_row(place, [5, 4, -1, 2, 1])
            self.assertRaises(BadPrices, Tariff, *rows)
            self.assertEqual(rows, with_row(place, [5, 4, -1, 2, 1]))

    def test_changing_a_row_later_changes_no_price(self):
        expected = told_prices(Tariff(*ROWS))

        def lower(row):
            row[4] = 0

        for change in (list.clear, list.reverse, list.pop, lower):
            for place in range(3):
                for asked_before in (False, True):
                    rows = [list(row) for row in ROWS]
                    tariff = Tariff(*rows)
                    if asked_before:
                        told_prices(tariff)
                    change(rows[place])
                    self.assertEqual(told_prices(tariff), expected)
                    self.assertEqual([tariff.singles, tariff.days, tariff.weeks], list(ROWS))

    def test_one_row_handed_in_three_times(self):
        row = [5, 4, 3, 2, 6]
        tariff = Tariff(row, row, row)
        row[0] = 0
        self.assertEqual(told_prices(tariff), [[2, 2, 2, 2, 6]] * 3)


class Refusals(RefusalCase):
    def test_another_number_of_prices(self):
        for place in range(3):
            for row in ([], [1], [1] * 4, [1] * 6, [1] * 10, [-1], [-1] * 6):
                self.assert_refused(BadPrices, Tariff, *with_row(place, row))

    def test_fifteen_prices_in_other_rows(self):
        self.assert_refused(BadPrices, Tariff, [1] * 4, [1] * 5, [1] * 6)
        self.assert_refused(BadPrices, Tariff, [1] * 6, [1] * 5, [1] * 4)
        self.assert_refused(BadPrices, Tariff, [], [], [1] * 15)

    def test_a_price_below_nought_at_each_place_of_each_row(self):
        for place in range(3):
            for at in range(5):
                for price in (-1, -TWELVE, -LARGE):
                    row = list(ROWS[place])
                    row[at] = price
                    self.assert_refused(BadPrices, Tariff, *with_row(place, row))

    def test_several_wrong_rows(self):
        self.assert_refused(BadPrices, Tariff, [], [], [])
        self.assert_refused(BadPrices, Tariff, [-1] * 5, [1] * 4, [-1] * 6)

    def test_zones_not_from_one_to_five(self):
        tariff = Tariff(*ROWS)
        for ask in (tariff.single, tariff.day, tariff.week):
            for zones in (0, 6, 7, 10, 60, -1, -2, -4, -5, -6, 10 ** 12, -10 ** 12, LARGE, -LARGE):
                self.assert_refused(BadZones, ask, zones)

    def test_a_refusal_changes_no_later_price(self):
        tariff = Tariff(*ROWS)
        expected = told_prices(tariff)
        self.assertRaises(BadZones, tariff.single, 0)
        self.assertRaises(BadZones, tariff.week, 6)
        self.assertEqual(told_prices(tariff), expected)


if __name__ == "__main__":
    unittest.main()

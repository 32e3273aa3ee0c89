"""Point 8: cards, the charges of their rides, and what they have paid."""

import inspect
import unittest

from fareweb import ledger as ledger_module
from fareweb.covers import least
from fareweb.errors import BadStop, FareError, NoWay, PastDay
from fareweb.ledger import Ledger
from fareweb.prices import Tariff
from fareweb.web import Web
from fares import chance_of, chance_rows, cost_of_all_sets, fair_rows, wrong_tickets
from refusals import LARGE, RefusalCase
from webs import Within

# A ride from stop 0 to stop k has k + 1 zones; stop 8 lies apart.
WEB = Web([0, 1, 2, 3, 4, 5, 6, 7, 0], [(stop, stop + 1) for stop in range(7)])
APART = 8
TARIFF = Tariff([2, 3, 4, 5, 6], [5, 7, 9, 11, 13], [20, 26, 32, 38, 44])
TWELVE = 10 ** 12 - 1


def goal_of(zones):
    return zones - 1


def week_rides(ledger, card, week):
    """For each day of the week the zones of the card's rides, as the ledger tells its rides."""
    days = [[] for _ in range(7)]
    for day, _, _, zones, _ in ledger.rides(card):
        if week * 7 <= day <= week * 7 + 6:
            days[day - week * 7].append(zones)
    return days


def answers(ledger, cards, days):
    """All that the ledger tells of these cards on these days."""
    told = []
    for card in cards:
        told.append((ledger.rides(card), ledger.paid(card)))
        told.append([ledger.day_sum(card, day) for day in days])
        weeks = sorted({day // 7 for day in days})
        told.append([(ledger.week_sum(card, week), ledger.tickets(card, week)) for week in weeks])
    return told


class LedgerCase(RefusalCase):
    def assert_charges(self, ledger, card, rides, charges):
        """The rides, pairs of a day and zones, are charged like this, one after the other."""
        for (day, zones), charge in zip(rides, charges, strict=True):
            self.assertEqual(ledger.ride(card, day, 0, goal_of(zones)), charge, (day, zones))

    def assert_sums(self, tariff, ledger, card):
        """The sums and tickets that are told of a card agree with its rides and their charges."""
        rows = ledger.rides(card)
        for day in {row[0] + by for row in rows for by in (-1, 0, 1, 7)}:
            charges = [row[4] for row in rows if row[0] == day]
            self.assertEqual(ledger.day_sum(card, day), sum(charges))
        for week in {row[0] // 7 + by for row in rows for by in (-1, 0, 1)}:
            days = week_rides(ledger, card, week)
            cost = sum(row[4] for row in rows if row[0] // 7 == week)
            tickets = ledger.tickets(card, week)
            self.assertEqual(ledger.week_sum(card, week), cost)
            self.assertEqual(cost_of_all_sets(tariff, days), cost)
            self.assertEqual(sum(ticket[-1] for ticket in tickets), cost)
            self.assertIsNone(wrong_tickets(tariff, days, tickets))
        self.assertEqual(ledger.paid(card), sum(row[4] for row in rows))


class Interface(LedgerCase):
    def test_names_and_arguments(self):
        arguments = {
            "__init__": ["self", "web", "tariff"],
            "ride": ["self", "card", "day", "start", "goal"],
            "rides": ["self", "card"],
            "day_sum": ["self", "card", "day"],
            "week_sum": ["self", "card", "week"],
            "paid": ["self", "card"],
            "tickets": ["self", "card", "week"],
        }
        for name, names in arguments.items():
            method = Ledger.__dict__[name]
            self.assertEqual(list(inspect.signature(method).parameters), names)
        self.assertEqual(Ledger.__module__, ledger_module.__name__)

    def test_arguments_by_keyword(self):
        ledger = Ledger(tariff=TARIFF, web=WEB)
        self.assertEqual(ledger.ride(goal=1, start=0, day=9, card="a"), 3)
        self.assertEqual(ledger.rides(card="a"), [(9, 0, 1, 2, 3)])
        self.assertEqual(ledger.day_sum(day=9, card="a"), 3)
        self.assertEqual(ledger.week_sum(week=1, card="a"), 3)
        self.assertEqual(ledger.paid(card="a"), 3)
        self.assertEqual(ledger.tickets(week=1, card="a"), [("single", 2, 0, 2, 3)])

    def test_kinds_of_what_is_told(self):
        ledger = Ledger(WEB, TARIFF)
        self.assertIs(type(ledger.ride("a", 0, 0, 0)), int)
        self.assertIs(type(ledger.rides("a")), list)
        self.assertIs(type(ledger.rides("a")[0]), tuple)
        self.assertIs(type(ledger.tickets("a", 0)), list)
        self.assertIs(type(ledger.tickets("a", 0)[0]), tuple)
        for told in (ledger.day_sum("a", 0), ledger.week_sum("a", 0), ledger.paid("a")):
            self.assertIs(type(told), int)


class WithoutRides(LedgerCase):
    def assert_nothing(self, ledger, card):
        self.assertEqual(ledger.rides(card), [])
        self.assertEqual(ledger.paid(card), 0)
        for at in (0, 1, 6, 7, -1, LARGE, -LARGE):
            self.assertEqual(ledger.day_sum(card, at), 0)
            self.assertEqual(ledger.week_sum(card, at), 0)
            self.assertEqual(ledger.tickets(card, at), [])

    def test_a_new_ledger(self):
        for card in ("", "a", "0"):
            self.assert_nothing(Ledger(WEB, TARIFF), card)

    def test_asking_makes_no_rides(self):
        ledger = Ledger(WEB, TARIFF)
        for _ in range(2):
            self.assert_nothing(ledger, "a")
        self.assert_charges(ledger, "a", [(0, 1)], [2])

    def test_another_card_than_the_one_that_rode(self):
        ledger = Ledger(WEB, TARIFF)
        self.assert_charges(ledger, "a", [(0, 1), (0, 5), (8, 2)], [2, 6, 3])
        self.assert_nothing(ledger, "b")

    def test_free_tickets_where_there_are_no_rides(self):
        self.assert_nothing(Ledger(WEB, Tariff([0] * 5, [0] * 5, [0] * 5)), "a")

    def test_days_and_weeks_between_rides(self):
        ledger = Ledger(WEB, TARIFF)
        self.assert_charges(ledger, "a", [(3, 1), (17, 1)], [2, 2])
        for day in (0, 2, 4, 7, 10, 16, 18, -3, -4):
            self.assertEqual(ledger.day_sum("a", day), 0)
        for week in (1, 3, -1):
            self.assertEqual(ledger.week_sum("a", week), 0)
            self.assertEqual(ledger.tickets("a", week), [])


class Charges(LedgerCase):
    def test_singles_until_a_day_ticket_is_less(self):
        ledger = Ledger(WEB, TARIFF)
        self.assert_charges(ledger, "a", [(0, 1)] * 5, [2, 2, 1, 0, 0])
        self.assertEqual(ledger.tickets("a", 0), [("day", 0, 1, 5)])

    def test_day_tickets_until_a_week_ticket_is_less(self):
        ledger = Ledger(WEB, TARIFF)
        for day in range(4):
            self.assert_charges(ledger, "a", [(day, 1)] * 3, [2, 2, 1])
        self.assert_charges(ledger, "a", [(4, 1), (5, 1), (6, 1)], [0, 0, 0])
        self.assertEqual((ledger.week_sum("a", 0), ledger.paid("a")), (20, 20))
        self.assertIn(("week", 1, 20), ledger.tickets("a", 0))
        self.assert_charges(ledger, "a", [(6, 5), (7, 1)], [6, 2])

    def test_a_wider_ride_grows_the_cost_by_less_than_its_single(self):
        tariff = Tariff([5, 20, 20, 20, 20], [9, 10, 11, 12, 13], [99] * 5)
        ledger = Ledger(WEB, tariff)
        self.assert_charges(ledger, "a", [(0, 1), (0, 2), (0, 5)], [5, 5, 3])
        self.assertEqual(ledger.tickets("a", 0), [("day", 0, 5, 13)])

    def test_a_ticket_for_more_zones_that_costs_less(self):
        ledger = Ledger(WEB, Tariff([9, 9, 4, 9, 9], [50] * 5, [50, 50, 50, 50, 10]))
        self.assert_charges(ledger, "a", [(0, 1), (1, 2), (2, 3), (3, 5)], [4, 4, 2, 0])
        self.assertEqual(ledger.tickets("a", 0), [("week", 5, 10)])

    def test_a_ride_of_one_zone_from_a_stop_to_itself(self):
        ledger = Ledger(WEB, TARIFF)
        self.assertEqual(ledger.ride("a", 0, APART, APART), 2)
        self.assertEqual(ledger.rides("a"), [(0, APART, APART, 1, 2)])

    def test_a_ride_of_more_than_five_zones_counts_as_one_of_five(self):
        ledger = Ledger(WEB, TARIFF)
        for day, goal in enumerate((4, 5, 6, 7)):
            self.assertEqual(ledger.ride("a", day, 0, goal), 6)
            self.assertEqual(ledger.ride("b", day, goal, 0), 6)
        self.assertEqual(
            ledger.rides("a"), [(0, 0, 4, 5, 6), (1, 0, 5, 5, 6), (2, 0, 6, 5, 6), (3, 0, 7, 5, 6)],
        )
        self.assertEqual([row[3] for row in ledger.rides("b")], [5] * 4)
        self.assertEqual(ledger.tickets("a", 0), [("single", day, 0, 5, 6) for day in range(4)])

    def test_the_zones_are_the_fewest_of_all_ways(self):
        web = Web([1, 2, 1, 1, 1, 1], [(0, 1), (1, 5), (0, 2), (2, 3), (3, 4), (4, 5), (5, 0)])
        ledger = Ledger(web, TARIFF)
        self.assertEqual(ledger.ride("a", 0, 0, 5), 2)
        self.assertEqual(ledger.ride("a", 1, 0, 1), 3)
        self.assertEqual([row[3] for row in ledger.rides("a")], [1, 2])

    def test_prices_nought(self):
        tariff = Tariff([0] * 5, [0] * 5, [0] * 5)
        ledger = Ledger(WEB, tariff)
        self.assert_charges(ledger, "a", [(0, 1), (0, 5), (3, 8)], [0, 0, 0])
        self.assertEqual((ledger.paid("a"), ledger.day_sum("a", 0), ledger.week_sum("a", 0)), (0, 0, 0))
        self.assertEqual(ledger.rides("a"), [(0, 0, 0, 1, 0), (0, 0, 4, 5, 0), (3, 0, 7, 5, 0)])
        days = week_rides(ledger, "a", 0)
        self.assertIsNone(wrong_tickets(tariff, days, ledger.tickets("a", 0)))

    def test_prices_of_twelve_figures(self):
        ledger = Ledger(WEB, Tariff([TWELVE - 2] * 5, [TWELVE - 1] * 5, [TWELVE] * 5))
        self.assert_charges(ledger, "a", [(0, 1), (0, 5), (1, 5), (7, 1)], [TWELVE - 2, 1, 1, TWELVE - 2])
        self.assertEqual(ledger.paid("a"), 2 * TWELVE - 2)


class Weeks(LedgerCase):
    def test_both_sides_of_a_weeks_border(self):
        for week in (1, 2, 10, 10 ** 30):
            ledger = Ledger(WEB, Tariff([9] * 5, [9] * 5, [10] * 5))
            first = 7 * week
            self.assert_charges(ledger, "a", [(first - 1, 1), (first - 1, 1), (first, 1)], [9, 0, 9])
            self.assert_charges(ledger, "a", [(first + 6, 1), (first + 7, 1)], [1, 9])
            self.assertEqual([ledger.week_sum("a", week + by) for by in (-2, -1, 0, 1, 2)], [0, 9, 10, 9, 0])
            self.assertEqual(ledger.day_sum("a", first - 1), 9)
            self.assertEqual(ledger.day_sum("a", first), 9)
            self.assertEqual(ledger.day_sum("a", first + 6), 1)
            self.assertEqual(ledger.paid("a"), 28)

    def test_the_same_day_of_the_next_week(self):
        ledger = Ledger(WEB, Tariff([4] * 5, [5] * 5, [99] * 5))
        self.assert_charges(ledger, "a", [(2, 1), (9, 1), (9, 1), (16, 1)], [4, 4, 1, 4])
        self.assertEqual([ledger.week_sum("a", week) for week in (0, 1, 2)], [4, 5, 4])
        self.assertEqual([ledger.day_sum("a", day) for day in (2, 9, 16)], [4, 5, 4])

    def test_days_far_apart(self):
        ledger = Ledger(WEB, Tariff([9] * 5, [9] * 5, [10] * 5))
        days = [0, 700, 7 * 10 ** 9, 10 ** 100, LARGE]
        self.assert_charges(ledger, "a", [(day, 3) for day in days], [9] * 5)
        self.assertEqual([ledger.day_sum("a", day) for day in days], [9] * 5)
        self.assertEqual([ledger.week_sum("a", day // 7) for day in days], [9] * 5)
        self.assertEqual([row[0] for row in ledger.rides("a")], days)

    def test_a_large_first_day(self):
        ledger = Ledger(WEB, TARIFF)
        self.assert_charges(ledger, "a", [(LARGE, 1), (LARGE, 1), (LARGE, 1), (LARGE, 1)], [2, 2, 1, 0])
        self.assertEqual(ledger.tickets("a", LARGE // 7), [("day", LARGE % 7, 1, 5)])
        self.assertEqual(ledger.week_sum("a", LARGE // 7), 5)

    def test_tickets_count_days_within_the_week_and_rides_within_the_day(self):
        ledger = Ledger(WEB, Tariff([1, 2, 3, 4, 5], [50] * 5, [60] * 5))
        self.assert_charges(ledger, "a", [(6, 1), (14, 2), (14, 1), (17, 5), (20, 3), (20, 4), (21, 1)],
                            [1, 2, 1, 5, 3, 4, 1])
        self.assertEqual(ledger.tickets("a", 0), [("single", 6, 0, 1, 1)])
        self.assertEqual(ledger.tickets("a", 1), [])
        self.assertEqual(sorted(ledger.tickets("a", 2)), [
            ("single", 0, 0, 2, 2), ("single", 0, 1, 1, 1), ("single", 3, 0, 5, 5),
            ("single", 6, 0, 3, 3), ("single", 6, 1, 4, 4),
        ])
        self.assertEqual(ledger.tickets("a", 3), [("single", 0, 0, 1, 1)])
        self.assertEqual(ledger.tickets("a", 4), [])


class Cards(LedgerCase):
    NAMES = ["", " ", "a", "A", "a ", " a", "aa", "0", "00", "None", "a0", "a\n", "()", "('a', 0)"]

    def test_no_ride_of_another_card_changes_anything(self):
        ledger = Ledger(WEB, TARIFF)
        charges = [2, 2, 1, 0, 6]
        for at, card in enumerate(self.NAMES):
            self.assert_charges(ledger, card, [(at, 1)] * 4 + [(at, 5)], charges)
        for at, card in enumerate(self.NAMES):
            self.assertEqual(ledger.paid(card), 11)
            self.assertEqual(ledger.day_sum(card, at), 11)
            self.assertEqual(ledger.day_sum(card, at + 1), 0)
            self.assertEqual(ledger.week_sum(card, at // 7), 11)
            self.assertEqual([row[4] for row in ledger.rides(card)], charges)

    def test_rides_of_several_cards_by_turns(self):
        alone = {}
        for at, card in enumerate(self.NAMES):
            ledger = Ledger(WEB, TARIFF)
            self.ride_some(ledger, card, at, 12)
            alone[card] = answers(ledger, [card], range(40))
        together = Ledger(WEB, TARIFF)
        for step in range(12):
            for at, card in enumerate(self.NAMES):
                self.ride_some(together, card, at, step + 1, step)
        for card in self.NAMES:
            self.assertEqual(answers(together, [card], range(40)), alone[card])

    def ride_some(self, ledger, card, at, until, since=0):
        for step in range(since, until):
            ledger.ride(card, at + step // 3, 0, (at + step) % 6)

    def test_days_go_on_for_each_card_alone(self):
        ledger = Ledger(WEB, TARIFF)
        self.assert_charges(ledger, "late", [(100, 1)], [2])
        self.assert_charges(ledger, "early", [(0, 1), (3, 1)], [2, 2])
        self.assert_charges(ledger, "", [(0, 1)], [2])
        self.assert_refused(PastDay, ledger.ride, "late", 99, 0, 0)

    def test_two_ledgers_are_apart(self):
        first, second = Ledger(WEB, TARIFF), Ledger(WEB, TARIFF)
        self.assert_charges(first, "a", [(5, 1)] * 3, [2, 2, 1])
        self.assert_charges(second, "a", [(0, 1)] * 2, [2, 2])
        self.assertEqual((first.paid("a"), second.paid("a")), (5, 4))


class AgainstAllSets(LedgerCase):
    def assert_growth(self, tariff, chance, rides):
        """Rides of two cards by turns; each is charged what the least cost of its week grows by."""
        ledger = Ledger(WEB, tariff)
        day = {"a": chance.randrange(9), "b": chance.randrange(9)}
        for _ in range(rides):
            card = chance.choice("ab")
            day[card] += chance.choice([0, 0, 0, 0, 1, 1, 2, 5])
            start, goal = chance.randrange(8), chance.randrange(8)
            week = day[card] // 7
            before = week_rides(ledger, card, week)
            charge = ledger.ride(card, day[card], start, goal)
            after = [list(rides) for rides in before]
            after[day[card] % 7].append(min(abs(start - goal) + 1, 5))
            self.assertEqual(week_rides(ledger, card, week), after)
            self.assertEqual(charge, cost_of_all_sets(tariff, after) - cost_of_all_sets(tariff, before))
            self.assertEqual(ledger.week_sum(card, week), least(tariff, after)[0])
            self.assertEqual(ledger.rides(card)[-1][:3] + ledger.rides(card)[-1][4:],
                             (day[card], start, goal, charge))
        for card in "ab":
            self.assert_sums(tariff, ledger, card)

    def test_chance_rides_at_prices_of_like_worth(self):
        for seed in range(60):
            chance = chance_of(seed)
            self.assert_growth(Tariff(*fair_rows(chance)), chance, 25)

    def test_chance_rides_at_chance_prices(self):
        for seed in range(60):
            chance = chance_of(seed)
            self.assert_growth(Tariff(*chance_rows(chance, 1 + seed % 30)), chance, 25)

    def test_many_rides_on_one_day_and_in_many_weeks(self):
        ledger = Ledger(WEB, TARIFF)
        with Within(60):
            for at in range(2000):
                ledger.ride("a", 3, 0, at % 8)
            for at in range(2000):
                ledger.ride("a", 7 + at, 0, 0)
        self.assertEqual(ledger.day_sum("a", 3), 13)
        self.assertEqual(ledger.paid("a"), 13 + 2 * 2000)
        self.assertEqual(ledger.tickets("a", 0), [("day", 3, 5, 13)])


class Own(LedgerCase):
    CARDS = ["a", "b", ""]

    def setUp(self):
        self.ledger = Ledger(WEB, TARIFF)
        self.assert_charges(self.ledger, "a", [(0, 1), (0, 5), (1, 2), (9, 3)], [2, 6, 3, 4])
        self.assert_charges(self.ledger, "b", [(2, 8)], [6])

    def answers(self):
        return answers(self.ledger, self.CARDS, range(-1, 20))

    def test_changing_a_told_list_changes_no_later_answer(self):
        expected = self.answers()
        for card in self.CARDS:
            for ask in (lambda card: self.ledger.rides(card), lambda card: self.ledger.tickets(card, 0)):
                told = ask(card)
                told.append((5, 0, 0, 1, 2))
                self.assertEqual(self.answers(), expected)
                told.clear()
                self.assertEqual(self.answers(), expected)
        self.assertEqual(self.ledger.ride("", 0, 0, 0), 2)
        self.assertEqual(self.ledger.rides(""), [(0, 0, 0, 1, 2)])
        self.assertEqual(self.ledger.ride("a", 9, 0, 2), 4)

    def test_what_was_told_ahead_of_further_rides_stays(self):
        rides = [self.ledger.rides(card) for card in self.CARDS]
        tickets = [self.ledger.tickets(card, week) for card in self.CARDS for week in (0, 1)]
        kept = [list(row) for row in rides], [list(row) for row in tickets]
        for card in self.CARDS:
            for _ in range(5):
                self.ledger.ride(card, 9, 0, 4)
        self.assertEqual((rides, tickets), kept)
        self.assertEqual([len(self.ledger.rides(card)) for card in self.CARDS], [9, 6, 5])

    def test_a_told_list_stays_changed(self):
        rides = self.ledger.rides("a")
        rides.clear()
        self.ledger.ride("a", 9, 0, 0)
        self.assertEqual(rides, [])

    def test_changing_what_webs_and_tariffs_were_made_of_changes_no_charge(self):
        zones, links = [1, 2, 3], [(0, 1), (1, 2)]
        rows = [[2, 3, 4, 5, 6], [5, 7, 9, 11, 13], [20, 26, 32, 38, 44]]
        ledger = Ledger(Web(zones, links), Tariff(*rows))
        self.assertEqual(ledger.ride("a", 0, 0, 2), 4)
        zones[:] = [1, 1, 1]
        links.append((0, 2))
        for row in rows:
            row[:] = [0] * 5
        self.assertEqual(ledger.ride("a", 1, 0, 2), 4)
        self.assertEqual(ledger.tickets("a", 0), [("single", 0, 0, 3, 4), ("single", 1, 0, 3, 4)])

    def test_nothing_handed_in_is_changed(self):
        web, tariff = Web([1, 2], [(0, 1)]), Tariff([1] * 5, [2] * 5, [3] * 5)
        ledger = Ledger(web, tariff)
        for day in range(9):
            ledger.ride("a", day, 0, 1)
        ledger.tickets("a", 0).clear()
        self.assertEqual((web.zones, web.links), ([1, 2], [(0, 1)]))
        self.assertEqual((tariff.singles, tariff.days, tariff.weeks), ([1] * 5, [2] * 5, [3] * 5))

    def test_asking_changes_nothing(self):
        expected = self.answers()
        for _ in range(3):
            self.assertEqual(self.answers(), expected)
        self.assertEqual(self.ledger.ride("a", 9, 0, 2), 4)


class Refusals(LedgerCase):
    CARDS = ["a", "b", "new"]

    def setUp(self):
        self.ledger = self.filled()

    def filled(self):
        ledger = Ledger(WEB, TARIFF)
        self.assert_charges(ledger, "a", [(3, 1), (10, 1), (10, 1)], [2, 2, 2])
        self.assert_charges(ledger, "b", [(0, 2)], [3])
        return ledger

    def assert_refused_ride(self, kind, card, day, start, goal):
        """The ride is refused, and leaves all answers and later charges as they were."""
        days = range(-2, 30)
        expected = answers(self.ledger, self.CARDS, days)
        self.assert_refused(kind, self.ledger.ride, card, day, start, goal)
        self.assertEqual(answers(self.ledger, self.CARDS, days), expected)

    def assert_later_charges(self):
        """What comes after the refusals is charged as if they had not been."""
        other = self.filled()
        for card in self.CARDS:
            for day, goal in ((10, 0), (10, 0), (11, 4), (13, 2), (14, 0), (14, 0), (14, 0)):
                charge = other.ride(card, day, 0, goal)
                self.assertEqual(self.ledger.ride(card, day, 0, goal), charge)
        days = range(30)
        self.assertEqual(answers(self.ledger, self.CARDS, days), answers(other, self.CARDS, days))

    def test_a_stop_that_is_not_there(self):
        for stop in (-1, -9, 9, 10, LARGE, -LARGE):
            for card in self.CARDS:
                self.assert_refused_ride(BadStop, card, 20, stop, 0)
                self.assert_refused_ride(BadStop, card, 20, 0, stop)
                self.assert_refused_ride(BadStop, card, 20, stop, stop)
        self.assert_later_charges()

    def test_no_way(self):
        for card in self.CARDS:
            self.assert_refused_ride(NoWay, card, 20, 0, APART)
            self.assert_refused_ride(NoWay, card, 20, APART, 7)
        self.assert_later_charges()

    def test_a_day_below_nought(self):
        for day in (-1, -2, -7, -8, -10 ** 12, -LARGE):
            for card in self.CARDS:
                self.assert_refused_ride(PastDay, card, day, 0, 1)
        self.assert_later_charges()

    def test_a_day_below_that_of_the_last_ride(self):
        for day in (9, 7, 6, 3, 0):
            self.assert_refused_ride(PastDay, "a", day, 0, 1)
        self.assert_later_charges()

    def test_a_day_below_a_very_large_one(self):
        self.ledger.ride("a", LARGE, 0, 0)
        self.assert_refused_ride(PastDay, "a", LARGE - 1, 0, 1)
        self.assertEqual(self.ledger.ride("a", LARGE, 0, 0), 2)

    def test_the_day_of_the_last_ride_is_no_past_day(self):
        self.assertEqual(self.ledger.ride("a", 10, 0, 0), 1)
        self.assertEqual(self.ledger.ride("b", 0, 0, 0), 2)
        self.assertEqual(self.ledger.ride("new", 0, 0, 0), 2)

    def test_the_last_ride_is_the_last_one_that_was_not_refused(self):
        self.assert_refused_ride(NoWay, "a", 50, 0, APART)
        self.assert_refused_ride(BadStop, "a", 60, 0, 9)
        self.assert_refused_ride(NoWay, "new", 50, 0, APART)
        self.assertEqual(self.ledger.ride("a", 10, 0, 0), 1)
        self.assertEqual(self.ledger.ride("new", 1, 0, 0), 2)

    def test_the_order_where_several_things_are_wrong(self):
        for card in self.CARDS:
            for stop in (-1, 9, LARGE):
                for day in (-1, -LARGE):
                    self.assert_refused_ride(BadStop, card, day, stop, APART)
                    self.assert_refused_ride(BadStop, card, day, APART, stop)
                    self.assert_refused_ride(BadStop, card, day, stop, stop)
            for day in (-1, -LARGE):
                self.assert_refused_ride(NoWay, card, day, 0, APART)
                self.assert_refused_ride(NoWay, card, day, APART, 0)
                self.assert_refused_ride(PastDay, card, day, APART, APART)
        for day in (9, 0):
            self.assert_refused_ride(BadStop, "a", day, 9, 0)
            self.assert_refused_ride(BadStop, "a", day, 0, -1)
            self.assert_refused_ride(NoWay, "a", day, APART, 0)
            self.assert_refused_ride(PastDay, "a", day, 0, 0)
        self.assert_later_charges()

    def test_a_web_without_stops(self):
        ledger = Ledger(Web([], []), TARIFF)
        for stop in (-1, 0, 1):
            self.assert_refused(BadStop, ledger.ride, "a", 0, stop, stop)
        self.assertEqual(ledger.rides("a"), [])

    def test_a_refusal_is_a_fare_error(self):
        self.assertRaises(FareError, self.ledger.ride, "a", 0, 0, 0)


if __name__ == "__main__":
    unittest.main()

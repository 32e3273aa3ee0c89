"""Points 1, 2 and 3: zones, links, ways and the fewest zones."""

import inspect
import itertools
import unittest

from fareweb import web as web_module
from fareweb.errors import NoWay
from fareweb.web import Web
from webs import Within, all_rows, chance_web, levels_by_rounds, levels_of_all_rows, zones_of

LARGE = 10 ** 40


class WebCase(unittest.TestCase):
    def assert_way(self, web, start, goal, count):
        """The web's way from the start to the goal is one, and has so many zones."""
        row = web.way(start, goal)
        self.assertIs(type(row), list)
        self.assertEqual((row[0], row[-1]), (start, goal))
        for one, other in zip(row, row[1:]):
            self.assertTrue((one, other) in web.links or (other, one) in web.links, row)
        self.assertEqual(zones_of(web.zones, row), count, row)
        self.assertEqual(web.fewest(start, goal), count)

    def assert_answers(self, web, start, levels):
        """All that the web tells of a start agrees with the levels."""
        self.assertEqual(web.levels(start), levels, (web.zones, web.links, start))
        for goal, count in enumerate(levels):
            if count is None:
                self.assertRaises(NoWay, web.fewest, start, goal)
                self.assertRaises(NoWay, web.way, start, goal)
            else:
                self.assert_way(web, start, goal, count)

    def assert_web(self, zones, links, told_levels):
        """The web's answers from every start are those that told_levels finds."""
        web = Web(zones, links)
        for start in range(len(zones)):
            self.assert_answers(web, start, told_levels(zones, links, start))


class Interface(unittest.TestCase):
    def test_names_and_arguments(self):
        arguments = {
            "__init__": ["self", "zones", "links"],
            "levels": ["self", "start"],
            "fewest": ["self", "start", "goal"],
            "way": ["self", "start", "goal"],
        }
        for name, names in arguments.items():
            method = Web.__dict__[name]
            self.assertEqual(list(inspect.signature(method).parameters), names)
        self.assertEqual(Web.__module__, web_module.__name__)

    def test_arguments_by_keyword(self):
        web = Web(zones=[4, 4, 5], links=[(0, 1), (1, 2)])
        self.assertEqual(web.levels(start=0), [1, 1, 2])
        self.assertEqual(web.fewest(start=0, goal=2), 2)
        self.assertEqual(web.way(start=0, goal=2), [0, 1, 2])

    def test_kinds_of_what_is_told(self):
        web = Web([4, 4, 5], [(0, 1)])
        self.assertIs(type(web.levels(0)), list)
        self.assertIs(type(web.levels(0)[0]), int)
        self.assertIsNone(web.levels(0)[2])
        self.assertIs(type(web.fewest(0, 1)), int)
        self.assertIs(type(web.way(0, 1)), list)
        self.assertIs(type(web.zones), list)
        self.assertIs(type(web.links), list)

    def test_fields_are_as_they_were_handed_in(self):
        zones = [7, -2, LARGE, 7]
        links = [(3, 0), (0, 3), (1, 2), (1, 2)]
        web = Web(zones, links)
        self.assertEqual(web.zones, [7, -2, LARGE, 7])
        self.assertEqual(web.links, [(3, 0), (0, 3), (1, 2), (1, 2)])

    def test_fields_of_an_empty_web(self):
        web = Web([], [])
        self.assertEqual((web.zones, web.links), ([], []))


class Stops(WebCase):
    def test_zones_are_any_whole_numbers(self):
        for one, other in itertools.permutations([0, 1, -1, -2, 59, -LARGE, LARGE, LARGE + 1], 2):
            web = Web([one, other, int(str(one))], [(0, 1), (0, 2)])
            self.assertEqual(web.levels(0), [1, 2, 1], (one, other))
            self.assertEqual(web.levels(1), [2, 1, 2], (one, other))

    def test_a_link_leads_both_ways(self):
        for link in ((0, 1), (1, 0)):
            web = Web([3, 4], [link])
            self.assertEqual(web.levels(0), [1, 2])
            self.assertEqual(web.levels(1), [2, 1])
            self.assertEqual(web.way(0, 1), [0, 1])
            self.assertEqual(web.way(1, 0), [1, 0])

    def test_the_same_link_several_times(self):
        web = Web([3, 4, 4], [(0, 1), (1, 0), (0, 1), (1, 2), (1, 2)])
        self.assertEqual(web.levels(0), [1, 2, 2])
        self.assertEqual(web.way(2, 0), [2, 1, 0])

    def test_no_links(self):
        self.assert_answers(Web([5, 5, 6], []), 1, [None, 1, None])

    def test_one_stop(self):
        self.assert_answers(Web([-9], []), 0, [1])

    def test_no_stops(self):
        self.assertEqual(Web([], []).zones, [])


class Ways(WebCase):
    def test_from_a_stop_to_itself(self):
        web = Web([1, 2, 1], [(0, 1), (1, 2), (2, 0)])
        for stop in range(3):
            self.assertEqual(web.way(stop, stop), [stop])
            self.assertEqual(web.fewest(stop, stop), 1)
            self.assertEqual(web.levels(stop)[stop], 1)

    def test_from_a_stop_without_links_to_itself(self):
        web = Web([1, 2, 1], [(0, 1)])
        self.assertEqual(web.way(2, 2), [2])
        self.assertEqual(web.fewest(2, 2), 1)

    def test_neighbours_in_one_zone_count_nothing_more(self):
        self.assert_answers(Web([8, 8, 8, 8], [(0, 1), (1, 2), (2, 3)]), 0, [1, 1, 1, 1])

    def test_neighbours_in_unlike_zones_count_one_more(self):
        self.assert_answers(Web([8, 9, 10, 11], [(0, 1), (1, 2), (2, 3)]), 0, [1, 2, 3, 4])

    def test_how_far_zones_lie_apart_counts_nothing(self):
        self.assert_answers(Web([-50, 900, 4], [(0, 1), (1, 2)]), 0, [1, 2, 3])

    def test_a_zone_that_is_come_to_again_counts_again(self):
        self.assert_answers(Web([1, 2, 1, 2, 1], [(0, 1), (1, 2), (2, 3), (3, 4)]), 0, [1, 2, 3, 4, 5])

    def test_stops_in_one_zone_are_not_joined_by_it(self):
        self.assert_answers(Web([1, 1], []), 0, [1, None])

    def test_a_longer_row_with_fewer_zones_counts(self):
        zones = [1, 2, 1, 1, 1, 1]
        links = [(0, 1), (1, 5), (0, 2), (2, 3), (3, 4), (4, 5)]
        web = Web(zones, links)
        self.assertEqual(web.fewest(0, 5), 1)
        self.assertEqual(web.way(0, 5), [0, 2, 3, 4, 5])
        self.assertEqual(web.levels(0), [1, 2, 1, 1, 1, 1])

    def test_a_longer_row_through_other_zones_counts(self):
        # Straight 0-1-2-3 enters three more zones; the round by 4 to 7 only one more.
        zones = [1, 2, 3, 4, 1, 1, 4, 4]
        links = [(0, 1), (1, 2), (2, 3), (0, 4), (4, 5), (5, 6), (6, 7), (7, 3)]
        self.assert_way(Web(zones, links), 0, 3, 2)
        self.assert_way(Web(zones, links), 3, 0, 2)

    def test_parts_that_no_way_joins(self):
        web = Web([1, 1, 2, 2, 1], [(0, 1), (2, 3)])
        self.assert_answers(web, 0, [1, 1, None, None, None])
        self.assert_answers(web, 3, [None, None, 1, 1, None])
        self.assert_answers(web, 4, [None, None, None, None, 1])


class AgainstAllWays(WebCase):
    def test_all_rows_of_a_triangle(self):
        rows = all_rows(3, [(0, 1), (1, 2), (2, 0)], 0)
        self.assertEqual(sorted(rows), [[0], [0, 1], [0, 1, 2], [0, 2], [0, 2, 1]])

    def test_every_web_of_four_stops_in_three_zones(self):
        pairs = list(itertools.combinations(range(4), 2))
        for zones in itertools.product(range(3), repeat=3):
            for chosen in itertools.product([False, True], repeat=len(pairs)):
                links = [pair for pair, there in zip(pairs, chosen) if there]
                self.assert_web([0, *zones], links, levels_of_all_rows)

    def test_chance_webs_of_up_to_seven_stops(self):
        for seed in range(250):
            zones, links = chance_web(seed, 2 + seed % 6, 1 + seed % 13, 2 + seed % 3)
            self.assert_web(zones, links, levels_of_all_rows)


class LargeWebs(WebCase):
    def test_sixty_stops_and_two_hundred_links(self):
        for seed in range(3):
            zones, links = chance_web(seed, 60, 200, 2 + 4 * seed)
            with Within(30):
                self.assert_web(zones, links, levels_by_rounds)

    def test_sixty_stops_in_a_row(self):
        links = [(stop, stop + 1) for stop in range(59)]
        self.assert_answers(Web(list(range(60)), links), 0, list(range(1, 61)))
        self.assert_answers(Web([4] * 60, links), 59, [1] * 60)

    def test_a_ladder_with_very_many_ways(self):
        # Thirty pairs, each linked with all of the next pair: over 2 ** 29 rows lead across.
        zones = [stop // 2 for stop in range(60)]
        links = [
            (2 * pair + one, 2 * pair + 2 + other)
            for pair in range(29) for one in range(2) for other in range(2)
        ]
        with Within(30):
            self.assert_answers(Web(zones, links), 0, levels_by_rounds(zones, links, 0))

    def test_somewhat_beyond_the_limits(self):
        zones, links = chance_web(9, 90, 300, 5)
        with Within(30):
            self.assert_web(zones, links, levels_by_rounds)


if __name__ == "__main__":
    unittest.main()

"""The refusals of a web: BadLink, BadStop and NoWay."""

import unittest

from fareweb.errors import BadLink, BadStop, NoWay
from fareweb.web import Web
from refusals import LARGE, RefusalCase

GOOD = [(0, 1), (1, 2), (2, 0), (3, 2)]


class Links(RefusalCase):
    def test_a_bad_link_anywhere_among_good_ones(self):
        bad = [
            (-1, 0), (0, -1), (-4, 1), (1, -4), (-1, -2), (-LARGE, 2),
            (4, 0), (0, 4), (5, 3), (3, 5), (LARGE, 2), (4, 5), (-1, 4),
            (0, 0), (3, 3), (4, 4), (-1, -1),
        ]
        for link in bad:
            for place in range(len(GOOD) + 1):
                links = GOOD[:place] + [link] + GOOD[place:]
                self.assert_refused(BadLink, Web, [7, 7, 8, 9], links)

    def test_a_bad_link_alone(self):
        for link in ((0, 4), (4, 0), (-1, 0), (0, -1), (2, 2)):
            self.assert_refused(BadLink, Web, [7, 7, 8, 9], [link])

    def test_any_link_of_one_stop_or_of_none(self):
        for zones in ([], [3]):
            for link in ((0, 0), (0, 1), (1, 0), (0, -1), (-1, 0)):
                self.assert_refused(BadLink, Web, zones, [link])

    def test_several_bad_links(self):
        self.assert_refused(BadLink, Web, [7, 7], [(0, 1), (1, 1), (0, 2), (-1, 0)])

    def test_the_first_and_the_last_stop_may_be_linked(self):
        self.assertEqual(Web([7, 7, 8, 9], [(0, 3)]).levels(3), [2, None, None, 1])


class Stops(RefusalCase):
    def test_a_stop_that_is_not_there(self):
        web = Web([7, 7, 8, 9], GOOD)
        for stop in (-1, -2, -4, -5, -LARGE, 4, 5, LARGE):
            self.assert_refused(BadStop, web.levels, stop)
            self.assert_refused(BadStop, web.fewest, stop, stop)
            self.assert_refused(BadStop, web.way, stop, stop)
            for there in range(4):
                for ask in (web.fewest, web.way):
                    self.assert_refused(BadStop, ask, stop, there)
                    self.assert_refused(BadStop, ask, there, stop)

    def test_a_stop_that_is_not_there_where_a_way_is_missing_besides(self):
        web = Web([7, 7, 8, 9], [])
        for stop in (-1, -4, 4, 5):
            for ask in (web.fewest, web.way):
                self.assert_refused(BadStop, ask, stop, 1)
                self.assert_refused(BadStop, ask, 1, stop)

    def test_a_web_without_stops_has_none(self):
        web = Web([], [])
        for stop in (-1, 0, 1):
            self.assert_refused(BadStop, web.levels, stop)
            self.assert_refused(BadStop, web.fewest, stop, stop)
            self.assert_refused(BadStop, web.way, stop, stop)

    def test_the_first_and_the_last_stop_are_there(self):
        web = Web([7, 7, 8, 9], GOOD)
        self.assertEqual(web.levels(0), [1, 1, 2, 3])
        self.assertEqual(web.levels(3), [3, 3, 2, 1])
        self.assertEqual(web.fewest(0, 3), 3)
        self.assertEqual(web.way(3, 0), [3, 2, 0])


class Joined(RefusalCase):
    def test_no_way(self):
        web = Web([7, 7, 8, 8, 7], [(0, 1), (2, 3)])
        parts = [0, 0, 1, 1, 2]
        for start in range(5):
            for goal in range(5):
                if parts[start] != parts[goal]:
                    self.assert_refused(NoWay, web.fewest, start, goal)
                    self.assert_refused(NoWay, web.way, start, goal)

    def test_levels_tell_none_instead(self):
        web = Web([7, 7, 8], [(0, 1)])
        self.assertEqual(web.levels(0), [1, 1, None])
        self.assertEqual(web.levels(2), [None, None, 1])

    def test_a_refusal_changes_no_later_answer(self):
        web = Web([7, 7, 8], [(0, 1)])
        self.assertRaises(NoWay, web.way, 0, 2)
        self.assertRaises(BadStop, web.fewest, 0, 3)
        self.assertEqual(web.levels(0), [1, 1, None])
        self.assertEqual(web.way(0, 1), [0, 1])


if __name__ == "__main__":
    unittest.main()

"""Point 1: what is handed in is left alone, and what is told is the asker's own."""

import unittest

from fareweb.errors import FareError
from fareweb.web import Web

ZONES = [1, 1, 2, 3, 9]
LINKS = [(0, 1), (1, 2), (3, 2), (2, 3), (0, 3)]


def answers(web):
    """All that the web tells, refusals too."""
    told = []
    for start in range(-1, len(ZONES) + 1):
        told.append(answer(web.levels, start))
        for goal in range(-1, len(ZONES) + 1):
            told.append(answer(web.fewest, start, goal))
            told.append(answer(web.way, start, goal))
    return told


def answer(ask, *told):
    try:
        return ask(*told)
    except FareError as refusal:
        return refusal.__class__.__name__


class HandedIn(unittest.TestCase):
    def test_nothing_asked_changes_what_was_handed_in(self):
        zones, links = list(ZONES), list(LINKS)
        web = Web(zones, links)
        answers(web)
        self.assertEqual((zones, links), (ZONES, LINKS))
        self.assertEqual((web.zones, web.links), (ZONES, LINKS))

    def test_a_refusal_changes_nothing_that_was_handed_in(self):
        for wrong in ((0, 5), (-1, 0), (2, 2)):
            zones, links = list(ZONES), [*LINKS, wrong]
            self.assertRaises(FareError, Web, zones, links)
            self.assertEqual((zones, links), (ZONES, [*LINKS, wrong]))

    def test_changing_the_zones_later_changes_no_answer(self):
        def emptied(zones):
            zones.clear()

        def another(zones):
            zones[1] = 7

        def longer(zones):
            zones.append(1)

        for change in (emptied, another, longer):
            zones = list(ZONES)
            web = Web(zones, list(LINKS))
            change(zones)
            self.assertEqual(answers(web), answers(Web(ZONES, LINKS)))
            self.assertEqual(web.zones, ZONES)

    def test_changing_the_links_later_changes_no_answer(self):
        def emptied(links):
            links.clear()

        def put_in(links):
            links.append((0, 4))

        def taken_out(links):
            del links[1]

        def bad(links):
            links[0] = (8, 8)

        for change in (emptied, put_in, taken_out, bad):
            for asked_before in (False, True):
                links = list(LINKS)
                web = Web(list(ZONES), links)
                if asked_before:
                    answers(web)
                change(links)
                self.assertEqual(answers(web), answers(Web(ZONES, LINKS)))
                self.assertEqual(web.links, LINKS)

    def test_two_webs_of_the_same_lists_are_apart(self):
        zones, links = list(ZONES), list(LINKS)
        first = Web(zones, links)
        zones[1] = 5
        links.append((4, 0))
        second = Web(zones, links)
        self.assertEqual(answers(first), answers(Web(ZONES, LINKS)))
        self.assertEqual(answers(second), answers(Web([1, 5, 2, 3, 9], [*LINKS, (4, 0)])))
        self.assertNotEqual(answers(first), answers(second))


class Told(unittest.TestCase):
    def setUp(self):
        self.web = Web(list(ZONES), list(LINKS))

    def test_changing_told_levels_changes_no_later_answer(self):
        expected = answers(self.web)
        self.web.levels(0).clear()
        self.assertEqual(answers(self.web), expected)
        told = self.web.levels(0)
        told[3] = 99
        told.append(1)
        self.assertEqual(answers(self.web), expected)

    def test_changing_a_told_way_changes_no_later_answer(self):
        expected = answers(self.web)
        self.web.way(0, 2).clear()
        self.web.way(4, 4).append(0)
        self.web.way(3, 1).reverse()
        self.assertEqual(answers(self.web), expected)

    def test_asking_again_changes_nothing_that_was_told_before(self):
        levels, way = self.web.levels(0), self.web.way(0, 2)
        kept = list(levels), list(way)
        answers(self.web)
        self.assertEqual((levels, way), kept)

    def test_a_told_list_stays_changed(self):
        levels, way = self.web.levels(0), self.web.way(0, 2)
        levels.clear()
        way.clear()
        answers(self.web)
        self.assertEqual((levels, way), ([], []))

    def test_what_is_told_is_not_a_list_of_the_web(self):
        for told in (self.web.levels(0), self.web.way(0, 2)):
            for own in vars(self.web).values():
                self.assertIsNot(told, own)
        self.assertIsNot(self.web.levels(0), self.web.levels(0))
        self.assertIsNot(self.web.way(0, 2), self.web.way(0, 2))


if __name__ == "__main__":
    unittest.main()

"""Webs of stops in zones, and the ways through them that have the fewest zones."""

from fareweb.errors import BadLink, BadStop, NoWay


class Web:
    """Stops numbered from nought, the zone of each, and the links between them."""

    def __init__(self, zones, links):
        # Copies, so that a list that is changed later by who handed it in changes no answer.
        self.zones = list(zones)
        self.links = list(links)
        self._near = _neighbours(len(zones), links)

    def levels(self, start):
        """For each stop the zones of a ride from the start to it, None where there is no way."""
        self._check_stop(start)
        levels, _ = self._search(start)
        return levels

    def fewest(self, start, goal):
        """The zones of a ride from the start to the goal."""
        levels, _ = self._search_goal(start, goal)
        return levels[goal]

    def way(self, start, goal):
        """A row of stops from the start to the goal that has the fewest zones."""
        _, origins = self._search_goal(start, goal)
        row = [goal]
        while row[-1] != start:
            row.append(origins[row[-1]])
        return row[::-1]

    def _check_stop(self, stop):
        if not _is_stop(stop, len(self._near)):
            # The stop is not named: Python writes out no number of very many figures.
            raise BadStop("there is no such stop")

    def _search_goal(self, start, goal):
        """What _search tells, where the start and the goal are there and a way joins them."""
        self._check_stop(start)
        self._check_stop(goal)
        levels, origins = self._search(start)
        if levels[goal] is None:
            raise NoWay(f"no way leads from stop {start} to stop {goal}")
        return levels, origins

    def _search(self, start):
        """The levels from the start, and for each stop the one from which a way of its level comes to it."""
        levels = [None] * len(self._near)
        origins = [None] * len(self._near)
        steps = [(start, None)]
        level = 0
        while steps:
            level += 1
            steps = self._fill_level(level, steps, levels, origins)
        return levels, origins

    def _fill_level(self, level, entries, levels, origins):
        """Notes all stops of one level; tells the steps from them into unlike zones.

        A step is a pair: the stop that it leads to, and the stop that it comes from.
        """
        steps = list(entries)
        onward = []
        while steps:
            stop, origin = steps.pop()
            # A stop that has a level was reached by as few zones before, or by fewer.
            if levels[stop] is None:
                levels[stop] = level
                origins[stop] = origin
                for other in self._near[stop]:
                    if self.zones[other] == self.zones[stop]:
                        steps.append((other, stop))
                    else:
                        onward.append((other, stop))
        return onward


def _is_stop(stop, count):
    return 0 <= stop < count


def _neighbours(count, links):
    """For each stop the stops that it is linked with."""
    near = [[] for stop in range(count)]
    for one, other in links:
        _check_link(one, other, count)
        near[one].append(other)
        near[other].append(one)
    return near


def _check_link(one, other, count):
    if not _is_stop(one, count) or not _is_stop(other, count):
        raise BadLink("a link has a stop that is not there")
    if one == other:
        raise BadLink(f"a link joins stop {one} with itself")

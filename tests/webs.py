"""Searches of all ways, kept apart from the program so that its answers can be held against them."""

import random
import signal


def all_rows(count, links, start):
    """All rows of unlike stops that begin at the start and go by links.

    Leaving out what lies between two visits of one stop never adds a zone, so these rows
    hold one of the fewest zones for every goal.
    """
    near = {stop: set() for stop in range(count)}
    for one, other in links:
        near[one].add(other)
        near[other].add(one)
    rows = []
    open_rows = [[start]]
    while open_rows:
        row = open_rows.pop()
        rows.append(row)
        open_rows.extend(row + [stop] for stop in sorted(near[row[-1]] - set(row)))
    return rows


def zones_of(zones, row):
    """The zones of a row of stops, counted as the document counts them."""
    return 1 + sum(zones[one] != zones[other] for one, other in zip(row, row[1:]))


def levels_of_all_rows(zones, links, start):
    """The fewest zones of all rows from the start, for each stop; None where there is no row."""
    levels = [None] * len(zones)
    for row in all_rows(len(zones), links, start):
        count = zones_of(zones, row)
        if levels[row[-1]] is None or count < levels[row[-1]]:
            levels[row[-1]] = count
    return levels


def levels_by_rounds(zones, links, start):
    """The same, for webs with too many rows: goes over all links until nothing gets less."""
    levels = [None] * len(zones)
    levels[start] = 1
    changed = True
    while changed:
        changed = False
        for one, other in links + [(other, one) for one, other in links]:
            if levels[one] is not None:
                count = levels[one] + (zones[one] != zones[other])
                if levels[other] is None or count < levels[other]:
                    levels[other] = count
                    changed = True
    return levels


def chance_web(seed, stops, links, zones):
    """A web of so many stops and links, in at most so many zones; the same for the same seed."""
    chance = random.Random(seed)
    return (
        [chance.randrange(-1, zones - 1) for _ in range(stops)],
        [tuple(chance.sample(range(stops), 2)) for _ in range(links)],
    )


class Within:
    """Ends what runs under it with an error once the seconds are over."""

    def __init__(self, seconds):
        self.seconds = seconds

    def __enter__(self):
        self.former = signal.signal(signal.SIGALRM, self.late)
        signal.alarm(self.seconds)

    def __exit__(self, *told):
        signal.alarm(0)
        signal.signal(signal.SIGALRM, self.former)

    def late(self, *told):
        raise AssertionError(f"no answer within {self.seconds} seconds")

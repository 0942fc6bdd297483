"""Traces: what became of each rain of a run.

A rain is a tuple (TURN, PLACE), a pool a dict of rains with how many cubes of each are there (above 0).
"""

from sluiceway.houses import DELAY, PLACES, PUMP, PUMP_DELAY, PUMP_TO, down_of, number_of
from sluiceway.turns import LET, PUMPED, SPILLED, TOOK, run

# The turn of all rains that came ahead of the run.
BEFORE = -1


def traces(house, state, at, floods):
    """Tell how many cubes of each rain were taken, are gone, lie or are on their way, where and when."""
    pages, behind = run(house, state, at, floods)
    trail = Trail(house, state)
    for when, flood in enumerate(floods):
        trail.rain_down(when, flood)
        # Rivers without delay lead to later places: all that comes to a place has come when it is its turn.
        for place, row in enumerate(pages[when]):
            trail.go_by(place, when, row)
    trail.finish(len(floods))
    return [told + (cubes,) for told, cubes in sorted(trail.told.items())]


class Trail:
    """A run while its rains are followed: which lie where, which come where and when, and what is told of them."""

    def __init__(self, house, state):
        levels, coming = state
        self.house = house
        self.lying = [{} for level in levels]
        self.on_way = {}
        self.told = {}
        for place, level in enumerate(levels):
            pour(self.lying[place], (BEFORE, place), level)
            for when, cubes in enumerate(coming[place]):
                pour(self.coming_to(place, when), (BEFORE, place), cubes)

    def coming_to(self, place, when):
        """Tell the pool of what comes to a place in a turn."""
        return self.on_way.setdefault((place, when), {})

    def rain_down(self, when, flood):
        """Let the flood of a turn come."""
        for place, cubes in enumerate(flood):
            pour(self.coming_to(place, when), (when, place), cubes)

    def go_by(self, place, when, row):
        """Send on what leaves a place in a turn by its row of the page, and let the rest lie."""
        pool = self.lying[place]
        pour_all(pool, self.on_way.pop((place, when), {}))
        self.tell("took", place, when, drawn(pool, row[TOOK]))
        self.send_river(place, when, drawn(pool, row[LET]))
        self.send_pump(place, when, drawn(pool, row[PUMPED]))
        self.send_river(place, when, drawn(pool, row[SPILLED]))

    def send_river(self, place, when, pool):
        """Send a pool down the river of a place."""
        down = down_of(self.house, place)
        if down is None:
            self.tell("gone", place, when, pool)
        else:
            pour_all(self.coming_to(down, when + self.house[PLACES][place][DELAY]), pool)

    def send_pump(self, place, when, pool):
        """Send a pool by the pump of a place; where there is none, nothing was pumped."""
        if len(pool) > 0:
            pump = self.house[PLACES][place][PUMP]
            pour_all(self.coming_to(number_of(self.house, pump[PUMP_TO]), when + pump[PUMP_DELAY]), pool)

    def finish(self, turns):
        """Tell what lies and what is on its way behind so many turns."""
        for place, pool in enumerate(self.lying):
            self.tell("lies", place, turns, pool)
        for place, when in list(self.on_way):
            self.tell("coming", place, when, self.on_way[(place, when)])

    def tell(self, word, where, when, pool):
        """Tell what became of each rain of a pool."""
        for rain, cubes in pool.items():
            pour(self.told, rain + (word, where, when), cubes)


def pour(pool, rain, cubes):
    """Pour cubes of a rain into a pool."""
    if cubes > 0:
        pool[rain] = pool.get(rain, 0) + cubes


def pour_all(pool, other):
    """Pour all of another pool into a pool."""
    for rain, cubes in other.items():
        pour(pool, rain, cubes)


def drawn(pool, cubes):
    """Draw the first cubes out of a pool, so many, in the order of rains, and tell them as a pool."""
    first = {}
    # Most draws are of nothing, and a pool may be great: it is sorted only where something is drawn.
    order = sorted(pool) if cubes > 0 else []
    for rain in order:
        part = min(cubes, pool[rain])
        pour(first, rain, part)
        cubes -= part
        pool[rain] -= part
        if pool[rain] == 0:
            pool.pop(rain)
        if cubes == 0:
            break
    return first
